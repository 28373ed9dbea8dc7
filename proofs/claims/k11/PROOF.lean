import PyProof.Rows.All
import Wide.All
import OpenK.AllK
import Wide.FinOn
import Lean
import PyProof.EqAt
import PyProof.EqKinds
import PyProof.TupleCall
import PyProof.NeData
import Wide.Seal
import Wide.OfPy
import KE.KSetDisp
import PyProof.EnumMake
import PyProof.Draws
import PyProof.DictCompW
import PyProof.ListMulRoad
import PyProof.TupleOfStr
import PyProof.ListRange
import PyProof.ExcAttrAll.ValueError
import PySem.Challenge.RW_ledpast_k11_needed
open PySem.W renaming Frag→Gh
open List renaming length_map→Gi
open Nat renaming le_refl→Gj
open List renaming mem_singleton→Gk
open PySem.Heap renaming lt_size→Gm
open List renaming mem_cons→Gn
open PySem.Heap renaming get?_push_of_some→Gp
open List renaming length_append→Gq
open Nat renaming le_trans→Gr
open Nat renaming ne_of_lt→Gs
open PySem.Heap renaming get?_push_size→Gu
open List renaming mem_cons_of_mem→Gv
open List renaming mem_append→Gw
open List renaming mem_cons_self→Gx
open Option renaming some→Gy
open List renaming getElem?_map→Gz
open List renaming mem_of_getElem?→GB
open List renaming size_toArray→GC
open List renaming map_append→GF
open PySem.W renaming nsIn→GG
open List renaming getElem?_eq_some_iff→GH
open Nat renaming zero_le→GI
open Bool renaming false_ne_true→GJ
open List renaming map_cons→GK
open List renaming mem_map→GL
open List renaming take_add_one→GN
open Nat renaming lt_of_lt_of_le→GO
open PySem.Heap renaming size_push→GP
open Or renaming inr→GQ
open List renaming take_length→GR
open List renaming mem_append_right→GS
open PySem.W renaming findIn→GU
open List renaming mem_append_left→GV
open PySem.Heap renaming SameBut→GW
open List renaming append_assoc→GY
open Nat renaming le_of_lt→GZ
open List renaming length_cons→G0
open Nat renaming lt_irrefl→G1
open Bool renaming and_eq_true→G3
open List renaming range→G4
open PySem.W renaming fnOf→G5
open Nat renaming lt_succ_of_lt→G6
open Array renaming length_toList→G7
open PySem.W renaming mg_of→G8
open List renaming length_take→G9
open PySem.W renaming mg_none_of→Ha
open List renaming length→Hb
open List renaming lookup→Hc
open PySem.W renaming keepIn→Hd
open PySem.W renaming kia_one→He
open Nat renaming lt_succ_self→Hf
open PySem.Heap renaming get?_update_other→Hg
open Bool renaming false_eq_true→Hh
open List renaming nodup_nil→Hi
open List renaming mem_filter→Hj
open Nat renaming ne_of_gt→Hk
open PySem.W renaming emptyDict→Hl
open List renaming append_nil→Hm
open Nat renaming le_succ→Hn
open List renaming nodup_cons→Ho
open PySem.Heap renaming get?_update_self→Hq
open List renaming lookup_cons→Hr
open PySem.Around renaming under_plainId→Hs
open PySem.W renaming instObj→Ht
open List renaming replicate→Hu
open List renaming getElem?_append_left→Hv
open Int renaming toNat_natCast→Hw
open List renaming Pairwise→Hx
open List renaming length_filter_le→Hy
open List renaming nodup_append→Hz
open List renaming getElem?_eq_none→HA
open List renaming mem_range→HB
open PySem.W renaming codeIn→HC
open List renaming forIn_cons→HD
open List renaming mem_flatMap→HE
open List renaming filterMap_cons→HF
open PySem.W renaming mroIn→HG
open List renaming any_cons→HH
open List renaming foldl_cons→HI
open List renaming find?_cons→HJ
open List renaming map_map→HK
open List renaming not_mem_nil→HL
open PySem.Around renaming in1_units→HM
open Int renaming toNat→HN
open PySem.W renaming plainGet→HP
open PySem.W renaming isFn→HQ
open List renaming length_replicate→HR
open Array renaming getElem?_toList→HS
open Nat renaming lt_of_le_of_lt→HU
open Nat renaming lt_trans→HV
open Nat renaming le_add_right→HW
open Nat renaming le_of_succ_le→HX
open List renaming foldl_append→HY
open List renaming filter_cons_of_neg→HZ
open List renaming mem_of_mem_take→Ia
open List renaming mem_filterMap→Ic
open Bool renaming eq_iff_iff→Ie
open PySem.W renaming lookIn→Ig
open PySem.W renaming hasDictIn→Ih
open PySem.W renaming makesIn→Ii
open List renaming of_mem_zip→Ij
open List renaming getElem?_append_right→Ik
open List renaming map_nil→Il
open List renaming length_set→Im
open Option renaming map_some→Io
open List renaming length_nil→Ip
open List renaming filter_cons→Iq
open List renaming map_congr_left→Ir
open List renaming forIn_nil→Iu
open List renaming filter_append→Iv
open Nat renaming not_succ_le_self→Iw
open Bool renaming true_and→Iy
open List renaming pairwise_cons→Iz
open Bool renaming eq_false_iff→IA
open List renaming all_eq_true→IB
open List renaming filter_cons_of_pos→IC
open PySem.W renaming kdsCode→ID
open Nat renaming le_succ_of_le→IE
open Int renaming zero_add→IF
open PySem.W renaming methodObj→IG
open PySem.Heap renaming get?_none_of_le→IH
open List renaming getElem?_set_self→II
open List renaming getElem?_set_ne→IJ
open PySem.W renaming plainGet_of→IK
open PySem.W renaming plainOver→IL
open PySem.W renaming callWith_K→IM
open List renaming getElem?_replicate→IP
open List renaming take_of_length_le→IQ
open List renaming getElem?_eq_getElem→IS
open List renaming length_range→IT
open List renaming find?_cons_of_pos→IU
open List renaming find?_cons_of_neg→IV
open PySem renaming wpAny_bind→IW
open PySem renaming wpAny_pure→IX
open PySem renaming wpAny_mono→IY
open PySem renaming wpAny_holding→IZ
open PySem renaming wpAny_call_entry→Ja
open PySem renaming wpAny_newObj_type→Jc
open PySem renaming wpAny_field→Jd
open PySem renaming codeAny_builtin→Je
open PySem renaming wpAny_seqItems→Jf
open PySem renaming wpAny_rule→Jg
open PySem renaming codeAny_mono→Jh
open PySem renaming wpAny_setField→Ji
open PySem renaming wpAny_attempt→Jj
open PySem renaming wpAny_passesOwn→Jk
open PySem renaming wpAny_typeOf→Jl
open PySem renaming wpAny_truthy_bool→Jm
open PySem renaming wpAny_standAt→Jn
open PySem renaming wpAny_setField_rec→Jo
open PySem renaming wpAny_setState_of→Jp
open PySem renaming wpAny_Call_Name_kw→Jq
open PySem renaming wpAny_isInstance→Jr
open PySem renaming wpAny_setEntries_of→Js
open PySem renaming wpAny_alloc→Jt
open PySem renaming wpAny_execs_nil→Ju
open PySem renaming wpAny_pyIter_tuple→Jv
open PySem renaming wpAny_newList→Jw
open PySem renaming wpAny_onRaise→Jx
open PySem renaming wpAny_askSetting→Jy
open PySem renaming wpAny_ite_split→Jz
open PySem renaming wpAny_fieldsOf→JA
open PySem renaming wpAny_pyHash_str→JB
open PySem renaming wpAny_sequenceKey→JC
open PySem renaming wpAny_updateSeq_pair→JD
open PySem renaming wpAny_setEpoch_of→JE
open PySem renaming codeAny_call_builtin→JF
open PySem renaming wpAny_comprehension_free→JG
set_option maxHeartbeats 8000000
set_option Elab.async false
set_option linter.all false
set_option maxRecDepth 100000
namespace L2
open PySem PySem.Spec PyProof.Rows
abbrev Key:=Sum Int Str
def iC:Key->Value->Bool
 | .inl k,v=>Value.isInt k v
 | .inr x,v=>Value.isStrOf x v
def E4 (w:World):Key->Int
 | .inl k=>hashInt k
 | .inr x=>hashStr w x
theorem cY:∀{k:Key} {v:Value},iC k v=true->(∃i t,k=Sum.inl i/\v=Value.int i t)\/(∃x t,k=Sum.inr x/\v=Value.str x t)
 | .inl i,v,h=>by
  obtain⟨t,e⟩:=Value.isInt_shape (k:=i) (v:=v) h
  exact .inl ⟨i,t,rfl,e⟩
 | .inr x,v,h=>by
  obtain⟨t,e⟩:=Value.isStrOf_shape (x:=x) (v:=v) h
  exact .inr ⟨x,t,rfl,e⟩
theorem yc (i:Int)(t:Tok):iC (.inl i) (.int i t)=true:=by simp [iC,Value.isInt]
theorem yd (x:Str)(t:Tok):iC (.inr x) (.str x t)=true:=by simp [iC,Value.isStrOf]
theorem C3 (a b:Int):decide ((Sum.inl a:Key)=Sum.inl b)=(a == b):=by
 by_cases e:a=b
 ·subst e;simp
 ·have h:¬(Sum.inl a:Key)=Sum.inl b:=fun q=>e (Sum.inl.inj q)
  rw [decide_eq_false h]
  exact (beq_eq_false_iff_ne.mpr e).symm
theorem C4 (a b:Str):decide ((Sum.inr a:Key)=Sum.inr b)=decide (a=b):=by
 by_cases e:a=b
 ·subst e;simp
 ·have h:¬(Sum.inr a:Key)=Sum.inr b:=fun q=>e (Sum.inr.inj q)
  rw [decide_eq_false h,decide_eq_false e]
theorem C5 (a:Int)(b:Str):decide ((Sum.inl a:Key)=Sum.inr b)=false:=decide_eq_false (fun q=>nomatch q)
theorem C6 (a:Str)(b:Int):decide ((Sum.inr a:Key)=Sum.inl b)=false:=decide_eq_false (fun q=>nomatch q)
def aQ (prog:Program)(w:World):PySem.KeyKind prog w Key where
 is:=iC
 hash:=E4 w
 inj:=fun v a b ha hb=>by
  rcases cY ha with ⟨i,t,rfl,rfl⟩ | ⟨x,t,rfl,rfl⟩
  ·rcases cY hb with ⟨j,u,rfl,e⟩ | ⟨y,u,rfl,e⟩
   ·injection e with e1 _;rw [e1]
   ·exact nomatch e
  ·rcases cY hb with ⟨j,u,rfl,e⟩ | ⟨y,u,rfl,e⟩
   ·exact nomatch e
   ·injection e with e1 _;rw [e1]
 byValue:=fun k v h=>by
  rcases cY h with ⟨i,t,rfl,rfl⟩ | ⟨x,t,rfl,rfl⟩ <;> rfl
 pyHash:=fun hv h=>by
  rcases cY hv with ⟨i,t,rfl,rfl⟩ | ⟨x,t,rfl,rfl⟩
  ·exact wpAny_pyHash_int h
  ·exact JB h
 eqBool:=fun hu hv h=>by
  rcases cY hu with ⟨i,t,rfl,rfl⟩ | ⟨x,t,rfl,rfl⟩
  ·rcases cY hv with ⟨j,u,rfl,rfl⟩ | ⟨y,u,rfl,rfl⟩
   ·rw [C3] at h;exact wpAny_eqBool_int h
   ·rw [C5] at h;exact SeqAt.EqAt.int_str i t y u _ _ _ _ h
  ·rcases cY hv with ⟨j,u,rfl,rfl⟩ | ⟨y,u,rfl,rfl⟩
   ·rw [C6] at h;exact SeqAt.EqAt.str_int x t j u _ _ _ _ h
   ·rw [C4] at h;exact wpAny_eqBool_str h
 «strs»:=fun k x t v h=>by
  rcases cY h with ⟨i,u,rfl,e⟩ | ⟨y,u,rfl,e⟩
  ·exact nomatch e
  ·injection e with e1 _
   subst e1
   cases v <;> rfl
theorem nO (prog:Program)(w:World)(i:Int)(t:Tok):(aQ prog w).is (.inl i) (.int i t)=true:=yc i t
theorem nQ (prog:Program)(w:World)(x:Str)(t:Tok):(aQ prog w).is (.inr x) (.str x t)=true:=yd x t
inductive V where
 | aZ | bl (b:Bool) | int (i:Int) | str (x:Str) | jb (b:Array UInt8) | rO (b:UInt64) | ref (a:Addr) | ty (n:String)
 deriving DecidableEq
def RelV:V->Value->Prop
 | .aZ,u=>u=Value.none
 | .bl b,u=>u=Value.bool b
 | .int i,u=>∃t,u=Value.int i t
 | .str x,u=>∃t,u=Value.str x t
 | .jb b,u=>∃t,u=Value.bytes b t
 | .rO b,u=>∃t,u=Value.float b t
 | .ref a,u=>u=Value.ref a
 | .ty n,u=>u=Value.type n
abbrev Vals:List V->List Value->Prop:=Paired RelV
theorem Vals.length {xs:List V}{us:List Value}(r:Vals xs us):xs.length=us.length:=Paired.length r
theorem Vals.get:∀{xs:List V} {us:List Value} {i:Nat} {x:V},Vals xs us->xs[i]?=some x->∃u,us[i]?=some u/\RelV x u
 | _,_,_,_,.nil,e=>by simp at e
 | _,_,0,_,.cons r _,e=>by simp at e;subst e;exact⟨_,rfl,r⟩
 | _,_,i+1,x,.cons _ t,e=>by
  obtain⟨u,h1,h2⟩:=Vals.get (i:=i) (x:=x) t (by simpa using e)
  exact⟨u,by simpa using h1,h2⟩
theorem Vals.set {x:V}{u:Value}(r:RelV x u):∀{xs:List V} {us:List Value} (i:Nat),Vals xs us->Vals (xs.set i x) (us.set i u)
 | _,_,_,.nil=>.nil
 | _,_,0,.cons _ t=>.cons r t
 | _,_,i+1,.cons q t=>.cons q (Vals.set r i t)
theorem Vals.append:∀{xs ys:List V} {us ws:List Value},Vals xs us->Vals ys ws->Vals (xs++ys) (us++ws)
 | _,_,_,_,.nil,s=>s
 | _,_,_,_,.cons r t,s=>.cons r (Vals.append t s)
theorem Vals.take:∀{xs:List V} {us:List Value} (n:Nat),Vals xs us->Vals (xs.take n) (us.take n)
 | _,_,0,_=>.nil
 | _,_,_+1,.nil=>.nil
 | _,_,n+1,.cons r t=>.cons r (Vals.take n t)
theorem Vals.drop:∀{xs:List V} {us:List Value} (n:Nat),Vals xs us->Vals (xs.drop n) (us.drop n)
 | _,_,0,r=>r
 | _,_,_+1,.nil=>.nil
 | _,_,n+1,.cons _ t=>Vals.drop n t
def eW:Option V->Option Value->Prop
 | some v,some u=>RelV v u
 | none,none=>True
 | _,_=>False
def KV {κ : Type}:List (κ×V)->List (κ×Value)->Prop:=Paired fun (p:κ×V) (q:κ×Value)=>p.1=q.1/\RelV p.2 q.2
def kV:Key->V
 | .inl i=>.int i
 | .inr x=>.str x
inductive HO where
 | lst (xs:List V)
 | tup (xs:List V)
 | dK (kvs:List (Key×V)) | dT (kvs:List (List Key×V))
 | set (S:Int->Bool) (n:Nat)
 | ins (C dx:Addr) (fs:List (Str×V))
 | own (x:Addr)
 | xd (fs:List (Str×V))
 | met (f x:Addr)
 | Bp (lo hi:Int)
 | d5 (o:Obj) (u:HO)
 | lH (ps:Array Value)
 | ext (φ : Heap->Prop)
abbrev Hp:=Addr->Option HO
def upd (H:Hp)(a:Addr)(o:HO):Hp:=fun b=>if b=a then some o else H b
theorem aa {H:Hp}{a:Addr}{o:HO}:upd H a o a=some o:=by unfold upd;rw [if_pos rfl]
theorem ao {H:Hp}{a b:Addr}{o:HO}(h:b≠a):upd H a o b=H b:=by unfold upd;rw [if_neg h]
theorem BK {H:Hp}{a:Addr}{o u:HO}:upd (upd H a o) a u=upd H a u:=by
 funext b;unfold upd;split <;> rfl
theorem bw {H:Hp}{a b:Addr}{o u:HO}(h:H a=some o)(h':H b=some u)(d:o≠u):a≠b:=by
 intro e;subst e;rw [h] at h';exact d (Gy.inj h')
theorem ar {H:Hp}{a b:Addr}{o:HO}(h:H a=some o)(h':H b=none):a≠b:=by
 intro e;subst e;rw [h] at h';cases h'
section
variable (P:Program)(w:World)
def bM (H:Hp)(h:Heap)(a:Addr):HO->Prop
 | .lst xs=>xs.length<=sizeLine/\∃(its:List Value) (n:Nat),Vals xs its/\h.get? a=some { cls:=.type "list",data:=.seq its.toArray n }
 | .tup xs=>xs.length<=sizeLine/\∃its:List Value,Vals xs its/\∃o,h.get? a=some o/\o.cls=.type "tuple" /\ ∃n,o.data=.seq its.toArray n/\o.dict=none
 | .dK kvs=>kvs.length<=sizeLine/\(a == sysModules)=false/\∃vs,KV kvs vs/\h.DictOf (aQ P w) a vs
 | .dT kvs=>kvs.length<=sizeLine/\(a == sysModules)=false/\∃xs:List (List Key×Addr×Value),
   Paired (fun (p:List Key×V) (q:List Key×Addr×Value)=>p.1=q.1/\H q.2.1=some (.tup (p.1.map kV))/\RelV p.2 q.2.2) kvs xs /\
   ∃o es ep,h.get? a=some o/\o.ExactDict/\o.data=.dict es ep/\es.toList=xs.map (entryOfKey (tupleKind (aQ P w)))/\(xs.map (·.1)).Nodup
 | .set S n=>h.SetOf (intKind P w) a S n
 | .ins C dx fs=>H dx=some (.own a)/\fs.length<=1000/\dx≠a/\h.get? a=some (Ht C dx) /\
   ∃mA,h.Ns1 dx mA/\(∀f,eW (fs.lookup f) (mA f))/\PySem.Within mA (fs.map (·.1))
 | .own _=>∃o,h.get? a=some o
 | .xd fs=>∃mA,h.Ns1 a mA/\∀f,eW (fs.lookup f) (mA f)
 | .Bp lo hi=>∃t u v,h.get? a=some { cls:=.type "range",data:=.fields #[.int lo t,.int hi u,.int 1 v] }
 | .d5 o u=>h.get? a=some o/\bM H h a u
 | .lH ps=>h.get? a=some { cls:=.none,data:=.fields ps }
 | .met f x=>h.get? a=some (IG (.ref f) (.ref x))
 | .ext φ=>φ h/\(∃o,h.get? a=some o)/\∀h1 h2:Heap,φ h1->(∀o,h1.get? a=some o->h2.get? a=some o)->φ h2
def dn (H:Hp)(h:Heap):Prop:=∀a o,H a=some o->bM P w H h a o
end
section
variable {P:Program}{w:World}{H H':Hp}{h h':Heap}{a:Addr}{o:HO}
theorem bM.lt (x:bM P w H h a o):a<h.objs.size:=by
 cases o with
 | lst xs=>obtain⟨_,_,_,_,e⟩:=x;exact Gm e
 | tup xs=>obtain⟨_,_,_,p⟩:=x;exact (let ⟨o,e,_⟩:=p;Gm e)
 | dK kvs=>obtain⟨_,_,_,_,o,_,_,e,_⟩:=x;exact Gm e
 | dT kvs=>obtain⟨_,_,_,_,o,_,_,e,_⟩:=x;exact Gm e
 | set S n=>obtain⟨o,_,_,_,e,_⟩:=x;exact Gm e
 | ins C dx fs=>obtain⟨_,_,_,e,_⟩:=x;exact Gm e
 | own y=>obtain⟨_,e⟩:=x;exact Gm e
 | xd fs=>obtain⟨_,⟨_,_,_,e,_⟩,_⟩:=x;exact Gm e
 | Bp lo hi=>obtain⟨_,_,_,e⟩:=x;exact Gm e
 | d5 ob u=>obtain⟨e,_⟩:=x;exact Gm e
 | lH ps=>exact Gm (show h.get? a=some _ from x)
 | met f y=>exact Gm (show h.get? a=some _ from x)
 | ext φ=>obtain⟨_,⟨_,e⟩,_⟩:=x;exact Gm e
theorem Paired.zM {α β : Type}{F G:α->β->Prop}:∀{l₁ : List α} {l₂ : List β},Paired F l₁ l₂->(∀a b,F a b->G a b)->Paired G l₁ l₂
 | _,_,.nil,_=>.nil
 | _,_,.cons r t,f=>.cons (f _ _ r) (Paired.zM t f)
theorem bM.jP (x:bM P w H h a o)(k:∀b u,(b=a\/H b=some (.own a))->h.get? b=some u->h'.get? b=some u)
  (ho:∀b,H b=some (.own a)->H' b=some (.own a)) (ht:∀b xs,H b=some (.tup xs)->H' b=some (.tup xs)):bM P w H' h' a o:=by
 induction o with
 | lst xs=>obtain⟨z,its,n,r,e⟩:=x;exact⟨z,its,n,r,k _ _ (.inl rfl) e⟩
 | tup xs=>obtain⟨z,its,r,ob,e,c⟩:=x;exact⟨z,its,r,ob,k _ _ (.inl rfl) e,c⟩
 | dK kvs=>obtain⟨z,y,vs,r,ob,es,ep,e,c⟩:=x;exact⟨z,y,vs,r,ob,es,ep,k _ _ (.inl rfl) e,c⟩
 | dT kvs =>
  obtain⟨z,y,xs,r,ob,es,ep,e,c⟩:=x
  exact⟨z,y,xs,Paired.zM r fun p q z=>⟨z.1,ht _ _ z.2.1,z.2.2⟩,ob,es,ep,k _ _ (.inl rfl) e,c⟩
 | set S n=>obtain⟨ob,es,ep,t,e,c⟩:=x;exact⟨ob,es,ep,t,k _ _ (.inl rfl) e,c⟩
 | ins C dx fs =>
  obtain⟨d,z,ne,e,mA,⟨od,es,ep,e2,c⟩,r⟩:=x
  exact⟨ho _ d,z,ne,k _ _ (.inl rfl) e,mA,⟨od,es,ep,k _ _ (.inr d) e2,c⟩,r⟩
 | own y=>obtain⟨ob,e⟩:=x;exact⟨ob,k _ _ (.inl rfl) e⟩
 | xd fs=>obtain⟨mA,⟨od,es,ep,e,c⟩,r⟩:=x;exact⟨mA,⟨od,es,ep,k _ _ (.inl rfl) e,c⟩,r⟩
 | Bp lo hi=>obtain⟨t,u,v,e⟩:=x;exact⟨t,u,v,k _ _ (.inl rfl) e⟩
 | d5 ob u ih=>obtain⟨e,q⟩:=x;exact⟨k _ _ (.inl rfl) e,ih q⟩
 | lH ps =>
  have e:h.get? a=some { cls:=.none,data:=.fields ps }:=x
  show h'.get? a=some { cls:=.none,data:=.fields ps }
  exact k a _ (.inl rfl) e
 | met f y =>
  have e:h.get? a=some (IG (.ref f) (.ref y)):=x
  show h'.get? a=some (IG (.ref f) (.ref y))
  exact k a _ (.inl rfl) e
 | ext φ=>obtain⟨p,⟨o,e⟩,st⟩:=x;exact⟨st _ _ p fun o q=>k _ _ (.inl rfl) q,⟨o,k _ _ (.inl rfl) e⟩,st⟩
theorem dn.lt (x:dn P w H h)(e:H a=some o):a<h.objs.size:=(x a o e).lt
theorem dn.fresh (x:dn P w H h)(e:h.objs.size<=a):H a=none:=by
 cases q:H a with
 | none=>rfl
 | some u=>exact absurd (GO (x.lt q) e) (G1 _)
theorem dn.kept (x:dn P w H h)(k:∀b u,h.get? b=some u->h'.get? b=some u):dn P w H h':=fun a o e =>
 (x a o e).jP (fun b u _ q=>k b u q) (fun _ q=>q) fun _ _ q=>q
theorem dn.laid (x:dn P w H h)(k:∀b u,h.get? b=some u->h'.get? b=some u)(hp:h.objs.size<=a)(new:bM P w (upd H a o) h' a o):dn P w (upd H a o) h':=fun b u e=>by
 have hn:=x.fresh hp
 by_cases hb:b=a
 ·subst hb;rw [aa] at e;cases e;exact new
 ·rw [ao hb] at e
  exact (x b u e).jP (fun c v _ q=>k c v q) (fun c q=>by rw [ao (ar q hn)];exact q) fun c xs q=>by rw [ao (ar q hn)];exact q
end
def Rd (H:Hp)(a:Addr)(u:HO):Prop:=H a=some u\/∃o,H a=some (.d5 o u)
theorem Rd.ok {P:Program}{w:World}{H:Hp}{h:Heap}{a:Addr}{u:HO}(r:Rd H a u)(x:dn P w H h):bM P w H h a u:=by
 rcases r with r | ⟨o,r⟩
 ·exact x a u r
 ·obtain⟨_,q⟩:=x a _ r
  exact q
def ye:Option HO->Prop
 | some (.lst _)=>True
 | some (.dK _)=>True
 | some (.dT _)=>True
 | some (.set _ _)=>True
 | some (.ins _ _ _)=>True
 | some (.ext _)=>True
 | _=>False
section
variable {P:Program}{w:World}{H:Hp}{h h':Heap}{x e:Addr}{o':HO}
theorem dn.write (ok:dn P w H h)(mu:ye (H x))(he:e=x\/H e=some (.own x))(k:∀b u,b≠e->h.get? b=some u->h'.get? b=some u)(heo:∃u,h'.get? e=some u)
  (new:bM P w (upd H x o') h' x o'):dn P w (upd H x o') h':=fun b u q=>by
 have nown:∀c y,H c=some (.own y)->c≠x:=fun c y r z=>by subst z;rw [r] at mu;exact mu
 have ntup:∀c xs,H c=some (.tup xs)->c≠x:=fun c xs r z=>by subst z;rw [r] at mu;exact mu
 by_cases hb:b=x
 ·subst hb;rw [aa] at q;cases q;exact new
 ·rw [ao hb] at q
  by_cases hbe:b=e
  ·have q':H b=some (.own x):=by
    rcases he with z | z
    ·exact absurd (hbe.trans z) hb
    ·rw [hbe];exact z
   rw [q] at q';cases q'
   obtain⟨v,hv⟩:=heo
   exact⟨v,by rw [hbe];exact hv⟩
  ·refine (ok b u q).jP (fun c v hc r=>k c v ?_ r) (fun c r=>by rw [ao (nown c b r)];exact r) fun c xs r=>by rw [ao (ntup c xs r)];exact r
   rcases hc with rfl | hc
   ·exact hbe
   ·rintro rfl
    rcases he with z | z
    ·exact nown c b hc z
    ·rw [hc] at z;cases z;exact hb rfl
end
structure Un (fs ex:List Addr) (H H':Hp) (h h':Heap):Prop where
 keep:∀b o,h.get? b=some o->H b=none->b∉fs->b∉ex->h'.get? b=some o
 slot:∀b o,h.get? b=some o->H b=none->b∈fs->b∉ex->∃sl,h'.get? b=some { o with slots:=sl }
 free:∀b o,h.get? b=some o->H b=none->b∉ex->H' b=none
 there:∀b o,h.get? b=some o->b∉ex->∃o',h'.get? b=some o'
 aK:∀b xs,H b=some (.tup xs)->H' b=some (.tup xs)
 fF:∀b o u,H b=some (.d5 o u)->H' b=some (.d5 o u)
 fH:∀b ps,H b=some (.lH ps)->∃more,H' b=some (.lH (ps++more))
section
variable {fs fs' ex ex':List Addr}{H H1 H2:Hp}{h h1 h2 h':Heap}{a x e:Addr}{o:HO}
theorem Un.any (u:Un fs ex H H1 h h1){b:Addr}{ob:Obj}(q:h.get? b=some ob)(n:H b=none)(hx:b∉ex):∃sl,h1.get? b=some { ob with slots:=sl }:=by
 by_cases hb:b∈fs
 ·exact u.slot b ob q n hb hx
 ·exact⟨ob.slots,u.keep b ob q n hb hx⟩
theorem Un.kept (k:∀b u,h.get? b=some u->h'.get? b=some u):Un fs ex H H h h' :=
 ⟨fun b ob q _ _ _=>k b ob q,fun b ob q _ _ _=>⟨ob.slots,k b ob q⟩,fun _ _ _ n _=>n,fun b ob q _=>⟨ob,k b ob q⟩,fun _ _ q=>q,fun _ _ _ q=>q,fun _ ps q=>⟨#[],by rw [q];simp⟩⟩
theorem Un.refl:Un fs ex H H h h:=Un.kept fun _ _ q=>q
theorem Un.laid (k:∀b u,h.get? b=some u->h'.get? b=some u)(hp:h.objs.size<=a)(hn:H a=none):Un fs ex H (upd H a o) h h' where
 keep:=fun b u q _ _ _=>k b u q
 slot:=fun b u q _ _ _=>⟨u.slots,k b u q⟩
 free:=fun b u q n _=>by rw [ao (Gs (GO (Gm q) hp))];exact n
 there:=fun b u q _=>⟨u,k b u q⟩
 aK:=fun b xs q=>by rw [ao (ar q hn)];exact q
 fF:=fun b u xs q=>by rw [ao (ar q hn)];exact q
 fH:=fun b ps q=>⟨#[],by rw [ao (ar q hn),q];simp⟩
theorem Un.write (mu:ye (H x))(he:e=x\/H e=some (.own x))(k:∀b u,b≠e->h.get? b=some u->h'.get? b=some u)(heo:∃u,h'.get? e=some u):Un fs ex H (upd H x o) h h':=by
  have hx:∀b,H b=none->b≠x:=fun b n z=>by subst z;rw [n] at mu;exact mu
  have hb:∀b,H b=none->b≠e:=fun b n z=>by
    subst z
    rcases he with r | r
    . exact hx b n r
    . rw [n] at r;cases r
  have hm:∀b u,H b=some u->¬ye (some u)->b≠x:=fun b u q nm z=>by subst z;rw [q] at mu;exact nm mu
  refine⟨fun b u q n _ _=>k b u (hb b n) q,fun b u q n _ _=>⟨u.slots,k b u (hb b n) q⟩,fun b u q n _=>by rw [ao (hx b n)];exact n,fun b u q _=>?_,
    fun b xs q=>by rw [ao (hm b _ q fun z=>z)];exact q,fun b u xs q=>by rw [ao (hm b _ q fun z=>z)];exact q,fun b ps q=>⟨#[],by rw [ao (hm b _ q fun z=>z),q];simp⟩⟩
  by_cases hbe:b=e
  . subst hbe;exact heo
  . exact⟨u,k b u hbe q⟩
end
def Bq (h:Heap)(H:Hp):List Addr:=(G4 h.objs.size).filter fun a=>(H a).isSome
def ko (h:Heap)(H:Hp):Heap:=PySem.W.hideAll h (Bq h H)
theorem yf (h:Heap)(H:Hp):(ko h H).objs.size=h.objs.size:=PySem.W.hideAll_size _ _
theorem zN {h:Heap}{H:Hp}{b:Addr}{o:Obj}(e:h.get? b=some o)(n:H b=none):(ko h H).get? b=some o :=
 PySem.W.hideAll_get _ e fun hm=>by
  have q:(H b).isSome=true:=(Hj.mp hm).2
  rw [n] at q;simp at q
theorem BL {h:Heap}{H:Hp}{b:Addr}{o:Obj}(e:(ko h H).get? b=some o):h.get? b=some o/\H b=none:=by
 have e':h.get? b=some o:=PySem.W.of_hideAll (Bq h H) e
 refine⟨e',?_⟩
 cases q:H b with
 | none=>rfl
 | some x =>
  have hm:b∈Bq h H:=Hj.mpr ⟨HB.mpr (Gm e'),by simp [q]⟩
  have z:(ko h H).get? b=none:=PySem.W.hideAll_none (Bq h H) hm
  rw [z] at e;cases e
def BM (g h:Heap)(L:Addr):List (Addr×Obj):=(G4 h.objs.size).filterMap fun a=>if a=L\/(g.get? a).isSome=true then none else (h.get? a).map fun o=>(a,o)
def rest (g h:Heap)(L d:Addr):List (Addr×Obj):=(BM g h L).filter fun p=>decide (p.1≠d)
structure Mod (K:Gh) (mg:Str->Option Value) (base:Heap):Prop where
 jE:K.In base
 glob:base.Ns mainGlobals mg
 blt:∃mb,base.Ns builtinsNs mb/\∀x:Str,x ≠ "__name__" -> mb x=bootBuiltins x
 nolimit:base.NoLimit
structure Cx where
 prog:Program
 w:World
 K:Gh
 mg:Str->Option Value
 base:Heap
 A:Around
 N:List Str
 dJ:Shared
 kq:Hp
 env:Env
 outer:List Env
 stack:List Env
 ex:List Addr
 fn:Str->Bool
 calm:Bool
 pn:List (Addr×Obj)
 xe:Value->Shared->Prop
def cD (l:List Env):List Addr:=l.filterMap (·.frame)
abbrev Cx.fs (X:Cx):List Addr:=cD X.outer
def C7 (sc:Scope)(x:Str):Prop:=sc.names.lookup x=some .local\/sc.names.lookup x=some .cell\/sc.names.lookup x=some .free
def Loc (sc:Scope)(x:Str):Prop:=sc.names.lookup x=some .local\/sc.names.lookup x=some .cell
def Look (env:Env)(h:Heap)(m:Str->Option Value)(x:Str)(u:Value):Prop :=
 (env.kindOf x=some .local/\m x=some u)\/((env.kindOf x=some .cell\/env.kindOf x=some .free)/\∃c,env.cells.lookup x=some c/\h.IsCell c (some u))
structure Cx.Ok (X:Cx):Prop where
 mod:Mod X.K X.mg X.base
 kind:X.env.scope.kind=.function
 glob:X.env.globals=mainGlobals
 blt:X.env.builtins=builtinsNs
 above:X.dJ.heap.objs.size<=X.env.locals
 inj:∀x y c,X.env.cells.lookup x=some c->X.env.cells.lookup y=some c->x=y
 has:∀x,(X.env.kindOf x=some .cell\/X.env.kindOf x=some .free)->∃c,X.env.cells.lookup x=some c
 rP:∀x c,X.fn x=true->X.env.cells.lookup x=some c->X.dJ.heap.objs.size<=c
 hd:X.calm=true->X.A.handled=none
 frames:X.A.frames=some X.stack
 tL:X.stack=X.outer\/(X.stack=X.env::X.outer/\X.env.frame=some X.env.locals)
 yg:∀b∈X.ex,b≠X.env.locals/\∀x c,X.env.cells.lookup x=some c->c≠b
 bs:∀b o,X.base.get? b=some o->X.dJ.heap.get? b=some o/\X.kq b=none
 lI:X.base.objs.size<=X.dJ.heap.objs.size
 lU:∀b o,X.base.get? b=some o->b∉X.ex
 oz:∀b∈X.ex,b∉X.fs
 gC:X.dJ.heap.FunFrames X.base X.outer
 nR:∀b∈X.fs,X.kq b=none
structure Inv (X:Cx) (pins:List (Addr×Obj)) (Gf : List (Option V)) (H:Hp) (s:Shared):Prop where
 ok:X.Ok
 os:s.os=X.dJ.os
 bare:AllBare s.gens
 base:Un X.fs X.ex X.kq H X.dJ.heap s.heap
 loc:∃m,s.heap.Ns X.env.locals m/\∀(i:Nat) (x:Str) (v:V),X.N[i]?=some x->Gf[i]?=some (some v)->C7 X.env.scope x->∃u,RelV v u/\Look X.env s.heap m x u
 cell:∀x c,X.env.cells.lookup x=some c->∃v,s.heap.IsCell c v
 free:H X.env.locals=none
 dz:∀x c,X.env.cells.lookup x=some c->H c=none
 pin:∀p∈X.pn++pins,s.heap.get? p.1=some p.2/\H p.1=none/\p.1≠X.env.locals/\p.1∉X.fs/\∀v,p.2.data≠.cell v
 aL:dn X.prog X.w H s.heap
 len:Gf.length=X.N.length
section
variable {X:Cx}{pins:List (Addr×Obj)}{Gf : List (Option V)}{H H':Hp}{s:Shared}{h':Heap}
theorem Cx.Ok.E5 (ok:X.Ok){b:Addr}{o:Obj}(e:X.base.get? b=some o):b∉X.fs:=fun hb=>by
 have:=(ok.gC.mem hb).1
 rw [e] at this;cases this
theorem Inv.bs (I:Inv X pins Gf H s):∀b o,X.base.get? b=some o->s.heap.get? b=some o/\H b=none:=fun b o e =>
 ⟨I.base.keep b o (I.ok.bs b o e).1 (I.ok.bs b o e).2 (I.ok.E5 e) (I.ok.lU b o e),I.base.free b o (I.ok.bs b o e).1 (I.ok.bs b o e).2 (I.ok.lU b o e)⟩
theorem Inv.bk (I:Inv X pins Gf H s):∀b o,X.base.get? b=some o->s.heap.get? b=some o:=fun b o e=>(I.bs b o e).1
theorem Inv.mod (I:Inv X pins Gf H s):Mod X.K X.mg X.base:=I.ok.mod
theorem Inv.en (I:Inv X pins Gf H s):X.K.In s.heap:=I.ok.mod.jE.keeps I.bk
theorem Inv.lt (I:Inv X pins Gf H s):X.env.locals<s.heap.objs.size:=let ⟨_,hn,_⟩:=I.loc;hn.lt
theorem Inv.sz (I:Inv X pins Gf H s):X.dJ.heap.objs.size<=s.heap.objs.size:=Gr I.ok.above (GZ I.lt)
theorem Inv.E6 (I:Inv X pins Gf H s){a:Addr}(h:s.heap.objs.size<=a):a∉X.fs:=fun hb=>by
 obtain⟨_,o,ho,_⟩:=I.ok.gC.mem hb
 exact absurd (GO (Gm ho) (Gr I.sz h)) (G1 _)
theorem Inv.pE (I:Inv X pins Gf H s):∀x c,X.env.cells.lookup x=some c->c≠X.env.locals:=fun x c e z=>by
 obtain⟨v,o,ho,hd⟩:=I.cell x c e
 obtain⟨m,⟨o',es,ep,ho',hd',_⟩,_⟩:=I.loc
 rw [z,ho'] at ho;cases ho;rw [hd'] at hd;cases hd
theorem Inv.gC (I:Inv X pins Gf H s):s.heap.FunFrames X.base X.outer:=by
 have all:∀(l:List Env),(∀b∈cD l,b∈X.fs)->X.dJ.heap.FunFrames X.base l->s.heap.FunFrames X.base l:=by
  intro l
  induction l with
  | nil=>intro _ _;trivial
  | cons env r ih =>
   intro hs hl
   obtain⟨hk,⟨L,o,hf,hn,ho,hd⟩,hr⟩:=hl
   have hL:L∈X.fs:=hs L (by unfold cD;rw [HF,hf];exact Gx)
   obtain⟨sl,e⟩:=I.base.slot L o ho (I.ok.nR L hL) hL fun z=>I.ok.oz L z hL
   exact⟨hk,⟨L,_,hf,hn,e,hd⟩,ih (fun b hb=>hs b (by unfold cD;rw [HF,hf];exact Gv _ hb)) hr⟩
 exact all X.outer (fun _ hb=>hb) I.ok.gC
theorem Inv.stack (I:Inv X pins Gf H s):s.heap.FunFrames X.base X.stack:=by
 rcases I.ok.tL with e | ⟨e,hf⟩
 ·rw [e];exact I.gC
 ·rw [e]
  obtain⟨m,hn,_⟩:=I.loc
  refine .cons (by rw [I.ok.kind];decide) hf hn ?_ I.gC
  exact IH (Gr I.ok.lI I.ok.above)
theorem Inv.pF (I:Inv X pins Gf H s):∀b∈cD X.stack,b∈X.env.locals::X.fs:=fun b hb=>by
 rcases I.ok.tL with e | ⟨e,hf⟩
 ·rw [e] at hb;exact Gv _ hb
 ·rw [e] at hb
  unfold cD at hb
  rw [HF,hf] at hb
  exact hb
theorem Inv.j3 (I:Inv X pins Gf H s):∀b∈cD X.stack,H b=none:=fun b hb=>by
 rcases Gn.mp (I.pF b hb) with e | hb
 ·rw [e];exact I.free
 ·obtain⟨_,o,ho,_⟩:=I.ok.gC.mem hb
  exact I.base.free b o ho (I.ok.nR b hb) fun z=>I.ok.oz b z hb
theorem Inv.step {g':Array GenState}{t':Nat}{d':Drawn}{ch:List Addr}(I:Inv X pins Gf H s)
  (hch:∀b∈ch,(b∈X.ex\/X.dJ.heap.objs.size<=b)/\b≠X.env.locals/\(∀x c,X.env.cells.lookup x=some c->c≠b)/\∀p∈X.pn++pins,p.1≠b)
  (keep:∀b o,b≠X.env.locals->b∉X.fs->b∉ch->s.heap.get? b=some o->H b=none->h'.get? b=some o)
  (slot:∀b o,b≠X.env.locals->b∈X.fs->b∉ch->s.heap.get? b=some o->H b=none->∃sl,h'.get? b=some { o with slots:=sl }) (free:∀b o,b∉ch->s.heap.get? b=some o->H b=none->H' b=none)
  (there:∀b o,b∉ch->s.heap.get? b=some o->∃o',h'.get? b=some o')
  (aK:∀b xs,H b=some (.tup xs)->H' b=some (.tup xs)) (fF:∀b o u,H b=some (.d5 o u)->H' b=some (.d5 o u)) (fH:∀b ps,H b=some (.lH ps)->∃more,H' b=some (.lH (ps++more)))
  (ns:∀m,s.heap.Ns X.env.locals m->h'.Ns X.env.locals m) (aL:dn X.prog X.w H' h') (hg:AllBare g') :
  Inv X pins Gf H' { s with heap:=h',gens:=g',drawn:=d',toks:=t' }:=by
 have neL:∀b o,X.dJ.heap.get? b=some o->b≠X.env.locals:=fun b o e=>Gs (GO (Gm e) I.ok.above)
 have neC:∀b o,X.dJ.heap.get? b=some o->b∉X.ex->b∉ch:=fun b o e hx hb=>by
  rcases (hch b hb).1 with z | z
  ·exact hx z
  ·exact absurd (GO (Gm e) z) (G1 _)
 have cellK:∀x c,X.env.cells.lookup x=some c->∀v,s.heap.IsCell c v->h'.IsCell c v:=fun x c e v ⟨o,ho,hd⟩=>by
  have nch:c∉ch:=fun z=>(hch c z).2.2.1 x c e rfl
  by_cases hc:c∈X.fs
  ·obtain⟨sl,q⟩:=slot c o (I.pE x c e) hc nch ho (I.dz x c e)
   exact⟨_,q,hd⟩
  ·exact⟨o,keep c o (I.pE x c e) hc nch ho (I.dz x c e),hd⟩
 refine⟨I.ok,I.os,hg,⟨fun b o e n hb hx=>?_,fun b o e n hb hx=>?_,fun b o e n hx=>?_,fun b o e hx=>?_,fun b xs e=>aK b xs (I.base.aK b xs e),fun b o xs e=>fF b o xs (I.base.fF b o xs e),fun b ps e=>?_⟩,?_,fun x c e=>?_,?_,fun x c e=>?_,fun p hp=>?_,aL,I.len⟩
 ·exact keep b o (neL b o e) hb (neC b o e hx) (I.base.keep b o e n hb hx) (I.base.free b o e n hx)
 ·obtain⟨sl,e1⟩:=I.base.slot b o e n hb hx
  obtain⟨sl',e2⟩:=slot b _ (neL b o e) hb (neC b o e hx) e1 (I.base.free b o e n hx)
  exact⟨sl',e2⟩
 ·obtain⟨o',e1⟩:=I.base.there b o e hx
  exact free b o' (neC b o e hx) e1 (I.base.free b o e n hx)
 ·obtain⟨o',e1⟩:=I.base.there b o e hx
  exact there b o' (neC b o e hx) e1
 ·obtain⟨m1,e1⟩:=I.base.fH b ps e
  obtain⟨m2,e2⟩:=fH b _ e1
  exact⟨m1++m2,by rw [e2,Array.append_assoc]⟩
 ·obtain⟨m,hn,hl⟩:=I.loc
  refine⟨m,ns m hn,fun i x v e1 e2 e3=>?_⟩
  obtain⟨u,r,l⟩:=hl i x v e1 e2 e3
  refine⟨u,r,?_⟩
  rcases l with l | ⟨k,c,e,z⟩
  ·exact .inl l
  ·exact .inr ⟨k,c,e,cellK x c e _ z⟩
 ·obtain⟨v,z⟩:=I.cell x c e
  exact⟨v,cellK x c e v z⟩
 ·obtain⟨m,⟨o,_,_,ho,_⟩,_⟩:=I.loc
  exact free _ o (fun z=>(hch _ z).2.1 rfl) ho I.free
 ·obtain⟨v,o,ho,hd⟩:=I.cell x c e
  exact free c o (fun z=>(hch c z).2.2.1 x c e rfl) ho (I.dz x c e)
 ·obtain⟨e,n,ne,nf,d⟩:=I.pin p hp
  have nch:p.1∉ch:=fun z=>(hch p.1 z).2.2.2 p hp rfl
  exact⟨keep p.1 p.2 ne nf nch e n,free p.1 p.2 nch e n,ne,nf,d⟩
theorem Inv.un {t':Nat}(I:Inv X pins Gf H s)(u:Un X.fs [] H H' s.heap h')(aL:dn X.prog X.w H' h'):Inv X pins Gf H' { s with heap:=h',toks:=t' }:=by
  obtain⟨m,⟨o,es,ep,ho,r⟩,_⟩:=id I.loc
  obtain⟨sl,hL⟩:=u.any ho I.free (by simp)
  exact I.step (g':=s.gens) (d':=s.drawn) (ch:=[]) (fun _ z=>nomatch z) (fun b o _ hb _ e n=>u.keep b o e n hb (by simp)) (fun b o _ hb _ e n=>u.slot b o e n hb (by simp)) (fun b o _ e n=>u.free b o e n (by simp)) (fun b o _ e=>u.there b o e (by simp)) u.aK u.fF u.fH (fun m' hm=>by
    obtain⟨o',es',ep',ho',r'⟩:=hm
    rw [ho] at ho';cases ho'
    exact⟨_,es',ep',hL,r'⟩) aL I.bare
theorem Inv.call {g':Array GenState}{t':Nat}{d':Drawn}{ch:List Addr}(I:Inv X pins Gf H s)(u:Un (cD X.stack) ch H H' s.heap h')(aL:dn X.prog X.w H' h')(hg:AllBare g')
  (hch:∀b∈ch,(b∈X.ex\/X.dJ.heap.objs.size<=b)/\b≠X.env.locals/\(∀x c,X.env.cells.lookup x=some c->c≠b)/\∀p∈X.pn++pins,p.1≠b) :
  Inv X pins Gf H' { s with heap:=h',gens:=g',drawn:=d',toks:=t' }:=by
 obtain⟨m,⟨o,es,ep,ho,r⟩,_⟩:=id I.loc
 obtain⟨sl,hL⟩:=u.any ho I.free fun z=>(hch _ z).2.1 rfl
 exact I.step (ch:=ch) hch (fun b o hL hb hc e n=>u.keep b o e n (fun z=>(Gn.mp (I.pF b z)).elim hL hb) hc) (fun b o _ _ hc e n=>u.any e n hc) (fun b o hc e n=>u.free b o e n hc) (fun b o hc e=>u.there b o e hc) u.aK u.fF u.fH (fun m' hm=>by
  obtain⟨o',es',ep',ho',r'⟩:=hm
  rw [ho] at ho';cases ho'
  exact⟨_,es',ep',hL,r'⟩) aL hg
theorem Inv.turned {t':Nat}{it:Addr}(I:Inv X pins Gf H s)(k:∀b o,b≠it->s.heap.get? b=some o->h'.get? b=some o)(hn:H it=none)(hL:it≠X.env.locals)
  (h1:it∈X.ex\/X.dJ.heap.objs.size<=it) (h2:∀x c,X.env.cells.lookup x=some c->c≠it) (h3:∀p∈X.pn++pins,p.1≠it):Inv X pins Gf H { s with heap:=h',toks:=t' }:=by
 have nit:∀b u,H b=some u->b≠it:=fun b u e z=>by rw [z,hn] at e;cases e
 refine I.step (g':=s.gens) (d':=s.drawn) (ch:=[it]) (fun b hb=>?_) (fun b o _ _ hc e _=>k b o (fun z=>hc (by simp [z])) e) (fun b o _ _ hc e _=>⟨o.slots,k b o (fun z=>hc (by simp [z])) e⟩) (fun _ _ _ _ n=>n)
  (fun b o hc e=>⟨o,k b o (fun z=>hc (by simp [z])) e⟩) (fun _ _ e=>e) (fun _ _ _ e=>e) (fun b ps e=>⟨#[],by rw [e];simp⟩) (fun m hm=>?_) (fun b u e=>?_) I.bare
 ·have e:b=it:=by simpa using hb
  subst e
  exact⟨h1,hL,h2,h3⟩
 ·obtain⟨o,es,ep,ho,r⟩:=hm
  exact⟨o,es,ep,k _ o (Ne.symm hL) ho,r⟩
 ·refine (I.aL b u e).jP (fun c v hc q=>k c v ?_ q) (fun _ q=>q) fun _ _ q=>q
  rcases hc with z | z
  ·rw [z];exact nit b u e
  ·exact nit c _ z
theorem Inv.tok (I:Inv X pins Gf H s)(t:Nat):Inv X pins Gf H { s with toks:=t }:=I.un (h':=s.heap) (t':=t) Un.refl I.aL
theorem Inv.kept {t':Nat}(I:Inv X pins Gf H s)(k:∀b u,s.heap.get? b=some u->h'.get? b=some u):Inv X pins Gf H { s with heap:=h',toks:=t' }:=I.un (Un.kept k) (I.aL.kept k)
theorem Inv.laid {a:Addr}{o:HO}{t':Nat}(I:Inv X pins Gf H s)(k:∀b u,s.heap.get? b=some u->h'.get? b=some u)(hp:s.heap.objs.size<=a)(new:bM X.prog X.w (upd H a o) h' a o) :
  Inv X pins Gf (upd H a o) { s with heap:=h',toks:=t' }:=I.un (Un.laid k hp (I.aL.fresh hp)) (I.aL.laid k hp new)
theorem Inv.write {x e:Addr}{o:HO}{t':Nat}(I:Inv X pins Gf H s)(mu:ye (H x))(he:e=x\/H e=some (.own x))(k:∀b u,b≠e->s.heap.get? b=some u->h'.get? b=some u)(heo:∃u,h'.get? e=some u)
  (new:bM X.prog X.w (upd H x o) h' x o):Inv X pins Gf (upd H x o) { s with heap:=h',toks:=t' }:=I.un (Un.write mu he k heo) (I.aL.write mu he k heo new)
theorem Inv.weak {σ':List (Option V)}(I:Inv X pins Gf H s)(hl:σ'.length = Gf.length)(w:∀(i:Nat) v,σ'[i]?=some (some v)->Gf[i]?=some (some v)):Inv X pins σ' H s :=
 ⟨I.ok,I.os,I.bare,I.base,let ⟨m,hn,hl'⟩:=I.loc;⟨m,hn,fun i x v e1 e2 e3=>hl' i x v e1 (w i v e2) e3⟩,I.cell,I.free,I.dz,I.pin,I.aL,hl.trans I.len⟩
theorem Inv.vF {pins':List (Addr×Obj)}(I:Inv X pins Gf H s)(h:∀p∈pins',s.heap.get? p.1=some p.2/\H p.1=none/\p.1≠X.env.locals/\p.1∉X.fs/\∀v,p.2.data≠.cell v):Inv X pins' Gf H s :=
 ⟨I.ok,I.os,I.bare,I.base,I.loc,I.cell,I.free,I.dz,fun p hp=>(Gw.mp hp).elim (fun z=>I.pin p (GV _ z)) (h p),I.aL,I.len⟩
theorem oA {N:List Str}(hN:N.Nodup){i j:Nat}{x:Str}(a:N[i]?=some x)(b:N[j]?=some x):i=j:=by
 obtain⟨h1,e1⟩:=GH.mp a
 obtain⟨h2,e2⟩:=GH.mp b
 exact (List.getElem_inj hN).mp (e1.trans e2.symm)
theorem rQ {M:Model}{A:Around}{E:Value->Shared->Prop}{i:Nat}{x:Str}{v:V}{u:Value}{Q:Unit->Shared->Prop}(I:Inv X pins Gf H s)(hN:X.N.Nodup)(hi:X.N[i]?=some x)(hx:Loc X.env.scope x)(r:RelV v u)
  (h:∀s',Inv X pins (Gf.set i (some v)) H s'->(∃a,GW a s.heap s'.heap/\(a=X.env.locals\/X.env.cells.lookup x=some a))->Q () s') (hf:X.fn x=true\/X.env.scope.names.lookup x=some .local:=by first | exact .inl rfl | exact .inr rfl | assumption):wpAny M A (storeName X.env x u) Q E s:=by
 obtain⟨m,hn,hl⟩:=id I.loc
 have hcls:(X.env.scope.kind == .class||(X.env.scope.kind == .module&&X.env.locals != X.env.globals))=false:=by rw [I.ok.kind];rfl
 have hiσ : i<Gf.length:=by rw [I.len];exact (GH.mp hi).1
 have pE:=I.pE
 have tracked:∀{a:Addr} {h':Heap},(∃o,s.heap.get? a=some o/\H a=none)->GW a s.heap h'->dn X.prog X.w H h':=fun {a h'} ha hs b ob e=>by
  obtain⟨_,_,hfree⟩:=ha
  refine (I.aL b ob e).jP (fun c w' hc q=>(hs.2 c ?_).trans q) (fun _ q=>q) fun _ _ q=>q
  rintro rfl
  rcases hc with rfl | hc
  ·rw [hfree] at e;cases e
  ·rw [hfree] at hc;cases hc
 rcases hx with hk | hk
 ·refine wpAny_storeName_local hk hn (fun h' hn' hs=>?_) hcls
  obtain⟨oL,_,_,hoL,_⟩:=id hn
  refine h _ ⟨I.ok,I.os,I.bare,⟨fun b o e n hb hx=>?_,fun b o e n hb hx=>?_,I.base.free,fun b o e hx=>?_,I.base.aK,I.base.fF,I.base.fH⟩,⟨_,hn',fun j y v' e1 e2 e3=>?_⟩,fun y c e=>?_,I.free,I.dz,fun p hp=>?_,tracked ⟨oL,hoL,I.free⟩ hs,by simpa using I.len⟩ ⟨_,hs,.inl rfl⟩
  ·exact (hs.2 b (Gs (GO (Gm e) I.ok.above))).trans (I.base.keep b o e n hb hx)
  ·obtain⟨sl,e1⟩:=I.base.slot b o e n hb hx
   exact⟨sl,(hs.2 b (Gs (GO (Gm e) I.ok.above))).trans e1⟩
  ·obtain⟨o',e1⟩:=I.base.there b o e hx
   exact⟨o',(hs.2 b (Gs (GO (Gm e) I.ok.above))).trans e1⟩
  ·by_cases hj:j=i
   ·subst hj
    rw [hi] at e1;cases e1
    rw [II hiσ] at e2
    cases e2
    exact⟨u,r,.inl ⟨hk,by simp⟩⟩
   ·rw [IJ (Ne.symm hj)] at e2
    obtain⟨u',r',q⟩:=hl j y v' e1 e2 e3
    refine⟨u',r',?_⟩
    rcases q with ⟨k,e⟩ | ⟨k,c,e,z⟩
    ·refine .inl ⟨k,?_⟩
     have:y≠x:=fun e=>hj (oA hN e1 (e ▸ hi))
     simp [this,e]
    ·exact .inr ⟨k,c,e,z.sameBut hs (pE y c e)⟩
  ·obtain⟨w',z⟩:=I.cell y c e
   exact⟨w',z.sameBut hs (pE y c e)⟩
  ·obtain⟨e,n,ne,nf,d⟩:=I.pin p hp
   exact⟨(hs.2 p.1 ne).trans e,n,ne,nf,d⟩
 ·have hfn:X.fn x=true:=by
   rcases hf with z | z
   ·exact z
   ·rw [z] at hk;cases hk
  obtain⟨c,hc⟩:=I.ok.has x (.inl hk)
  obtain⟨w',z⟩:=I.cell x c hc
  refine wpAny_storeName_cell I.ok.kind hk hc z (fun h' hc' hs=>?_)
  obtain⟨oc,hoc,hocd⟩:=id z
  refine h { s with heap:=h' } ⟨I.ok,I.os,I.bare,⟨fun b o e n hb hx=>?_,fun b o e n hb hx=>?_,I.base.free,fun b o e hx=>?_,I.base.aK,I.base.fF,I.base.fH⟩,⟨m,hn.sameBut hs (Ne.symm (pE x c hc)),fun j y v' e1 e2 e3=>?_⟩,fun y c' e=>?_,I.free,I.dz,fun p hp=>?_,tracked ⟨oc,hoc,I.dz x c hc⟩ hs,by simpa using I.len⟩ ⟨c,hs,.inr hc⟩
  ·exact (hs.2 b (Gs (GO (Gm e) (I.ok.rP x c hfn hc)))).trans (I.base.keep b o e n hb hx)
  ·obtain⟨sl,e1⟩:=I.base.slot b o e n hb hx
   exact⟨sl,(hs.2 b (Gs (GO (Gm e) (I.ok.rP x c hfn hc)))).trans e1⟩
  ·obtain⟨o',e1⟩:=I.base.there b o e hx
   exact⟨o',(hs.2 b (Gs (GO (Gm e) (I.ok.rP x c hfn hc)))).trans e1⟩
  ·by_cases hj:j=i
   ·subst hj
    rw [hi] at e1;cases e1
    rw [II hiσ] at e2
    cases e2
    exact⟨u,r,.inr ⟨.inl hk,c,hc,hc'⟩⟩
   ·rw [IJ (Ne.symm hj)] at e2
    obtain⟨u',r',q⟩:=hl j y v' e1 e2 e3
    refine⟨u',r',?_⟩
    rcases q with q | ⟨k,c',e,z'⟩
    ·exact .inl q
    ·refine .inr ⟨k,c',e,z'.sameBut hs ?_⟩
     rintro rfl
     exact hj (oA hN e1 (I.ok.inj _ _ _ e hc ▸ hi))
  ·by_cases hcc:c' = c
   ·subst hcc;exact⟨_,hc'⟩
   ·obtain⟨w2,z2⟩:=I.cell y c' e
    exact⟨w2,z2.sameBut hs hcc⟩
  ·obtain⟨e,n,ne,nf,d⟩:=I.pin p hp
   refine⟨(hs.2 p.1 ?_).trans e,n,ne,nf,d⟩
   intro q
   rw [q,hoc] at e
   have q':oc=p.2:=Gy.inj e
   exact d w' (by rw [<-q'];exact hocd)
theorem jc {M:Model}{A:Around}{E:Value->Shared->Prop}{i:Nat}{x:Str}{v:V}{u:Value}{Q:Unit->Shared->Prop}(I:Inv X pins Gf H s)(hN:X.N.Nodup)(hi:X.N[i]?=some x)(hx:Loc X.env.scope x)(r:RelV v u)
  (h:∀s',Inv X pins (Gf.set i (some v)) H s'->Q () s') (hf:X.fn x=true\/X.env.scope.names.lookup x=some .local:=by first | exact .inl rfl | exact .inr rfl | assumption):wpAny M A (storeName X.env x u) Q E s :=
 rQ I hN hi hx r (fun s' I' _=>h s' I') hf
theorem Inv.Br {s':Shared}{ch:List Addr}(I:Inv X pins Gf H s)(ho:s'.os=s.os)(u:Un (cD X.stack) ch H H' s.heap s'.heap)(aL:dn X.prog X.w H' s'.heap)(hg:AllBare s'.gens)
  (hch:∀b∈ch,(b∈X.ex\/X.dJ.heap.objs.size<=b)/\b≠X.env.locals/\(∀x c,X.env.cells.lookup x=some c->c≠b)/\∀p∈X.pn++pins,p.1≠b):Inv X pins Gf H' s':=by
 obtain⟨h',g',d',t',o'⟩:=s'
 have e:o' = s.os:=ho
 subst e
 exact I.call (g':=g') (t':=t') (d':=d') u aL hg hch
end
abbrev XK:=Value->Option Addr->Hp->Prop
abbrev St:=List (Option V)
abbrev VK:=V->Hp->Prop
abbrev TE:=St->Hp->VK->Prop
abbrev TT:=St->Hp->(Bool->Hp->Prop)->Prop
abbrev TA:=St->Hp->(List V->Hp->Prop)->Prop
structure Ends where
 nx:St->Hp->Prop
 rt:VK
 bk:St->Hp->Prop:=fun _ _=>False
 ct:St->Hp->Prop:=fun _ _=>False
abbrev TS:=Ends->St->Hp->Prop
def EP (X:Cx)(pins:List (Addr×Obj))(Gf : St)(Q:VK)(u:Value)(s':Shared):Prop:=∃v H',Inv X pins Gf H' s'/\RelV v u/\Q v H'
def TP (X:Cx)(pins:List (Addr×Obj))(Gf : St)(Q:Bool->Hp->Prop)(b:Bool)(s':Shared):Prop:=∃H',Inv X pins Gf H' s'/\Q b H'
def AP (X:Cx)(pins:List (Addr×Obj))(Gf : St)(Q:List V->Hp->Prop)(us:List Value)(s':Shared):Prop:=∃vs H',Inv X pins Gf H' s'/\Vals vs us/\Q vs H'
def SP (X:Cx)(pins:List (Addr×Obj))(D:Ends)(f:Flow)(s':Shared):Prop :=
 match f with
 | .next=>∃σ' H',Inv X pins σ' H' s'/\D.nx σ' H'
 | .brk=>∃σ' H',Inv X pins σ' H' s'/\D.bk σ' H'
 | .cont=>∃σ' H',Inv X pins σ' H' s'/\D.ct σ' H'
 | .ret u=>∃v σ' H',Inv X pins σ' H' s'/\RelV v u/\D.rt v H'
def PE (X:Cx)(e:Expr)(t:TE):Prop :=
 ∀(pins:List (Addr×Obj)) (s:Shared) (Gf : St) (H:Hp) (Q:VK),Inv X pins Gf H s->t Gf H Q->wpAny (model X.prog X.w) X.A (eval e X.env) (EP X pins Gf Q) X.xe s
def PT (X:Cx)(e:Expr)(t:TT):Prop :=
 ∀(pins:List (Addr×Obj)) (s:Shared) (Gf : St) (H:Hp) (Q:Bool->Hp->Prop),Inv X pins Gf H s->t Gf H Q->wpAny (model X.prog X.w) X.A (isTrue e X.env (eval e X.env)) (TP X pins Gf Q) X.xe s
def PW (X:Cx)(e:Expr)(t:TT):Prop :=
 ∀(whole:Sem Value) (pins:List (Addr×Obj)) (s:Shared) (Gf : St) (H:Hp) (Q:Bool->Hp->Prop),Inv X pins Gf H s->t Gf H Q->wpAny (model X.prog X.w) X.A (isTrue e X.env whole) (TP X pins Gf Q) X.xe s
theorem PW.pt {X:Cx}{e:Expr}{t:TT}(h:PW X e t):PT X e t:=h _
def PA (X:Cx)(es:List Expr)(t:TA):Prop :=
 ∀(pos:Pos) (pins:List (Addr×Obj)) (s:Shared) (Gf : St) (H:Hp) (Q:List V->Hp->Prop),Inv X pins Gf H s->t Gf H Q->wpAny (model X.prog X.w) X.A (spliced (backTo pos (starEach es X.env))) (AP X pins Gf Q) X.xe s
def PS (X:Cx)(st:Stmt)(t:TS):Prop :=
 ∀(pins:List (Addr×Obj)) (s:Shared) (Gf : St) (H:Hp) (D:Ends),Inv X pins Gf H s->t D Gf H->wpAny (model X.prog X.w) X.A (exec st X.env) (SP X pins D) X.xe s
def fX (X:Cx)(st:List Stmt)(t:TS):Prop :=
 ∀(pins:List (Addr×Obj)) (s:Shared) (Gf : St) (H:Hp) (D:Ends),Inv X pins Gf H s->t D Gf H->wpAny (model X.prog X.w) X.A (execs st X.env) (SP X pins D) X.xe s
theorem bB {α : Type}{t:Sem α}{Q Q':α->Shared->Prop}{M:Model}{A:Around}{E:Value->Shared->Prop}{s:Shared}(h:wpAny M A t Q E s)(hQ:∀a s,Q a s->Q' a s):wpAny M A t Q' E s:=IY h hQ fun _ _ x=>x
section
variable {X:Cx}
inductive qL (i:Nat) (Gf : St) (H:Hp) (Q:VK):Prop
 | mk (v:_) (_:Gf[i]?=some (some v)) (_:Q v H)
def tC (v:V):TE:=fun _ H Q=>Q v H
theorem C8 {i:Nat} {x:Str} {pos:Pos} (hN:X.N[i]?=some x) (hv:C7 X.env.scope x) (hd:(x == ("__debug__" : Str))=false:=by decide) (hcd:(x == ("__classdict__" : Str))=false:=by decide):PE X (.Name x pos) (qL i):=by
 intro pins s Gf H Q I h
 obtain⟨v,e,h⟩:=h
 obtain⟨m,hn,hl⟩:=I.loc
 obtain⟨u,r,l⟩:=hl i x v hN e hv
 have fin:EP X pins Gf Q u s:=⟨v,H,I,r,h⟩
 rcases l with ⟨hk,hm⟩ | ⟨hk,c,hc,hcell⟩
 ·exact wpAny_Name (wpAny_loadName_local I.ok.kind hk hn hm fin) hd
 ·rcases hk with hk | hk
  ·exact wpAny_Name (wpAny_loadName_cell I.ok.kind hk hc hcell fin) hd
  ·exact wpAny_Name (wpAny_loadName_free I.ok.kind hk hc hcell fin hcd) hd
theorem ai {i j pos}:PE X (.Constant (.int i) j pos) (tC (.int i)):=fun _ _ _ H _ I h=>wpAny_Constant_int ⟨.int i,H,I.tok _,⟨_,rfl⟩,h⟩
theorem fc {b j pos}:PE X (.Constant (.bool b) j pos) (tC (.bl b)):=fun _ _ _ H _ I h=>Constant_bool ⟨.bl b,H,I,rfl,h⟩
theorem cE {j pos}:PE X (.Constant .none j pos) (tC .aZ):=fun _ _ _ H _ I h=>Constant_none ⟨.aZ,H,I,rfl,h⟩
theorem ba {x j pos}:PE X (.Constant (.str x) j pos) (tC (.str x)):=fun _ _ _ H _ I h=>Calls.Constant_str ⟨.str x,H,I.tok _,⟨_,rfl⟩,h⟩
def Gl (X:Cx)(x:Str):Prop:=X.env.kindOf x=some .globalImplicit
theorem j4 {E:Value->Shared->Prop}{pins:List (Addr×Obj)}{s:Shared}{Gf : St}{H:Hp}{x:Str}{u:Value}{pos:Pos}{Q:Value->Shared->Prop}(I:Inv X pins Gf H s)(hg:Gl X x)(hm:X.mg x=some u)(h:Q u s)
  (hd:(x == ("__debug__" : Str))=false:=by decide):wpAny (model X.prog X.w) X.A (eval (.Name x pos) X.env) Q E s :=
 Calls.Name_function_global I.ok.kind hg (Calls.loadGlobal_global (by rw [I.ok.glob];exact I.mod.glob.keeps I.bk) hm h) hd
theorem j5 {E:Value->Shared->Prop}{pins:List (Addr×Obj)}{s:Shared}{Gf : St}{H:Hp}{x:Str}{u:Value}{pos:Pos}{Q:Value->Shared->Prop}(I:Inv X pins Gf H s)(hg:Gl X x)(hm:X.mg x=none)(hv:bootBuiltins x=some u)(h:Q u s)
  (hn:x ≠ "__name__" := by decide) (hd:(x == ("__debug__" : Str))=false:=by decide):wpAny (model X.prog X.w) X.A (eval (.Name x pos) X.env) Q E s:=by
 obtain⟨mb,h1,h2⟩:=I.mod.blt
 exact Calls.Name_function_global I.ok.kind hg (Calls.loadGlobal_builtin (by rw [I.ok.glob];exact I.mod.glob.keeps I.bk) hm (by rw [I.ok.blt];exact h1.keeps I.bk) ((h2 x hn).trans hv) h) hd
theorem cG {x:Str} {v:V} {u:Value} {pos:Pos} (hg:Gl X x) (hm:X.mg x=some u) (r:RelV v u) (hd:(x == ("__debug__" : Str))=false:=by decide):PE X (.Name x pos) (tC v) :=
 fun _ _ _ H _ I h=>j4 I hg hm ⟨v,H,I,r,h⟩ hd
theorem m3 {x:Str} {v:V} {u:Value} {pos:Pos} (hg:Gl X x) (hm:X.mg x=none) (hv:bootBuiltins x=some u) (r:RelV v u) (hn:x ≠ "__name__" := by decide) (hd:(x == ("__debug__" : Str))=false:=by decide):PE X (.Name x pos) (tC v) :=
 fun _ _ _ H _ I h=>j5 I hg hm hv ⟨v,H,I,r,h⟩ hn hd
variable {a b:Expr}{ta tb:TE}{pos:Pos}
def PC (X:Cx)(op:CmpOp)(a b:Expr)(t:TE):Prop :=
 ∀(pins:List (Addr×Obj)) (s:Shared) (Gf : St) (H:Hp) (Q:VK),Inv X pins Gf H s->t Gf H Q ->
  wpAny (model X.prog X.w) X.A (eval a X.env) (fun v s₁=>wpAny (model X.prog X.w) X.A (eval b X.env) (fun u s₂=>wpAny (model X.prog X.w) X.A (compareOp op v u) (EP X pins Gf Q) X.xe s₂) X.xe s₁) X.xe s
theorem tN (b:Expr){op:CmpOp}(h:op≠.In)(h2:op≠.NotIn):behindInMarks op b=false:=by
 have e1:(op == CmpOp.In)=false:=by cases op <;> first | rfl | exact absurd rfl h
 have e2:(op == CmpOp.NotIn)=false:=by cases op <;> first | rfl | exact absurd rfl h2
 cases b <;> simp [behindInMarks,e1,e2]
def E7 (ta:TE):TE:=fun Gf H Q=>ta Gf H fun x H1=>Q (.bl (decide (x=.aZ))) H1
def Ek (ta:TE):TE:=fun Gf H Q=>ta Gf H fun x H1=>Q (.bl (!decide (x=.aZ))) H1
theorem RelV.tO {x:V}{v:Value}(r:RelV x v):(v == Value.none)=decide (x=.aZ):=by
 cases x with
 | aZ=>cases r;rfl
 | bl _=>cases r;rfl
 | int _=>obtain⟨t,rfl⟩:=r;rfl
 | str _=>obtain⟨t,rfl⟩:=r;rfl
 | jb _=>obtain⟨t,rfl⟩:=r;rfl
 | rO _=>obtain⟨t,rfl⟩:=r;rfl
 | ref _=>cases r;rfl
 | ty _=>cases r;rfl
theorem gd {j pos'}(ha:PE X a ta):PC X .Is a (.Constant .none j pos') (E7 ta):=by
 intro pins s Gf H Q I h
 refine bB (ha pins s Gf H _ I h) fun v s1 ⟨x,H1,I1,r1,q1⟩=>?_
 exact Constant_none (is_none_gen ⟨.bl _,H1,I1,by rw [r1.tO];rfl,q1⟩)
theorem fz {j pos'}(ha:PE X a ta):PC X .IsNot a (.Constant .none j pos') (Ek ta):=by
 intro pins s Gf H Q I h
 refine bB (ha pins s Gf H _ I h) fun v s1 ⟨x,H1,I1,r1,q1⟩=>?_
 exact Constant_none (isnot_none_gen ⟨.bl _,H1,I1,by rw [r1.tO];rfl,q1⟩)
inductive El (Q:(Bool->Hp->Prop)) (x:V) (H1:Hp):Prop
 | mk (c:_) (_:x=.bl c) (_:Q c H1)
def tB (t:TE):TT:=fun Gf H Q=>t Gf H fun x H1=>El Q x H1
theorem pG {op:CmpOp}{t:TE}(h:PC X op a b t)(h1:behindInMarks op b=false:=by first | exact tN _ (by decide) (by decide) | rfl):PE X (.Compare a [op] [b] pos) t:=fun pins s Gf H Q I hw=>wpAny_Compare1 (h pins s Gf H Q I hw) h1
theorem d6 {op:CmpOp}{t:TE}(h:PC X op a b t)(h1:behindInMarks op b=false:=by first | exact tN _ (by decide) (by decide) | rfl):PT X (.Compare a [op] [b] pos) (tB t):=by
 intro pins s Gf H Q I hw
 refine wpAny_isTrue_Compare1 (bB (h pins s Gf H _ I hw) fun v s1 h1=>bB h1 fun u s2 h2=>bB h2 fun c s3 ⟨x,H1,I1,r1,q1⟩=>?_) h1
 obtain⟨d,rfl,q⟩:=q1
 cases r1
 exact Jm ⟨H1,I1,q⟩
theorem gf {e:Expr}{t:TE}(h:PE X e t)(he:∀whole,isTrue e X.env whole=(do let v <-whole;standAt e.pos;holding [v] (truthy v)):=by intro _;rfl):PT X e (tB t):=by
 intro pins s Gf H Q I hw
 refine isTrue_plain (bB (h pins s Gf H _ I hw) fun v s1 ⟨x,H1,I1,r1,q1⟩=>?_) (he _)
 obtain⟨d,rfl,q⟩:=q1
 cases r1
 exact Jm ⟨H1,I1,q⟩
variable {tA tB':TT}{rest:List Expr}
def E8 (t u:TT):TT:=fun Gf H Q=>t Gf H fun c H1=>if c=true then u Gf H1 Q else Q false H1
def FK (t u:TT):TT:=fun Gf H Q=>t Gf H fun c H1=>if c=true then Q true H1 else u Gf H1 Q
def E9 (t:TT):TT:=fun Gf H Q=>t Gf H fun c H1=>Q (!c) H1
theorem ie (ha:PT X a tA):PW X (.BoolOp .And [a] pos) tA:=by
 intro wh pins s Gf H Q I h
 refine isTrue_and (bB (ha pins s Gf H Q I h) fun c s1 e=>?_)
 cases c with
 | true=>exact isTrue_and_nil e
 | false=>exact e
theorem j6 (ha:PT X a tA):PW X (.BoolOp .Or [a] pos) tA:=by
 intro wh pins s Gf H Q I h
 refine isTrue_or (bB (ha pins s Gf H Q I h) fun c s1 e=>?_)
 cases c with
 | false=>exact isTrue_or_nil e
 | true=>exact e
theorem iI (ha:PT X a tA)(hb:PW X (.BoolOp .And (b::rest) pos) tB'):PW X (.BoolOp .And (a::b::rest) pos) (E8 tA tB'):=by
 intro wh pins s Gf H Q I h
 refine isTrue_and (bB (ha pins s Gf H _ I h) fun c s1 ⟨H1,I1,q1⟩=>?_)
 cases c with
 | true=>exact hb wh pins s1 Gf H1 Q I1 q1
 | false=>exact⟨H1,I1,q1⟩
theorem ku (ha:PT X a tA)(hb:PW X (.BoolOp .Or (b::rest) pos) tB'):PW X (.BoolOp .Or (a::b::rest) pos) (FK tA tB'):=by
 intro wh pins s Gf H Q I h
 refine isTrue_or (bB (ha pins s Gf H _ I h) fun c s1 ⟨H1,I1,q1⟩=>?_)
 cases c with
 | true=>exact⟨H1,I1,q1⟩
 | false=>exact hb wh pins s1 Gf H1 Q I1 q1
theorem pH (ha:PT X a tA):PT X (.UnaryOp .Not a pos) (E9 tA):=by
 intro pins s Gf H Q I h
 exact isTrue_not (ha pins s Gf H (fun c H1=>Q (!c) H1) I h)
inductive zO (tb:TE) (Gf : St) (Q:VK) (x:V) (H1:Hp):Prop
 | mk (c:_) (_:x=.bl c) (_:if c=true then tb Gf H1 Q else Q (.bl false) H1)
def Em (ta tb:TE):TE:=fun Gf H Q=>ta Gf H fun x H1=>zO tb Gf Q x H1
inductive BN (tb:TE) (Gf : St) (Q:VK) (x:V) (H1:Hp):Prop
 | mk (c:_) (_:x=.bl c) (_:if c=true then Q (.bl true) H1 else tb Gf H1 Q)
def Fb (ta tb:TE):TE:=fun Gf H Q=>ta Gf H fun x H1=>BN tb Gf Q x H1
theorem j7 {op}{t:TE}(h:PE X a t):PE X (.BoolOp op [a] pos) t:=fun pins s Gf H Q I hw=>BoolOp_one (h pins s Gf H Q I hw)
theorem yh (ha:PE X a ta)(hb:PE X (.BoolOp .And (b::rest) pos) tb):PE X (.BoolOp .And (a::b::rest) pos) (Em ta tb):=by
 intro pins s Gf H Q I h
 refine BoolOp_and (bB (ha pins s Gf H _ I h) fun v s1 ⟨x,H1,I1,r1,q1⟩=>?_)
 obtain⟨c,rfl,q1⟩:=q1
 cases r1
 refine Jm ?_
 cases c with
 | true=>exact hb pins s1 Gf H1 Q I1 q1
 | false=>exact⟨.bl false,H1,I1,rfl,q1⟩
theorem tD (ha:PE X a ta)(hb:PE X (.BoolOp .Or (b::rest) pos) tb):PE X (.BoolOp .Or (a::b::rest) pos) (Fb ta tb):=by
 intro pins s Gf H Q I h
 refine BoolOp_or (bB (ha pins s Gf H _ I h) fun v s1 ⟨x,H1,I1,r1,q1⟩=>?_)
 obtain⟨c,rfl,q1⟩:=q1
 cases r1
 refine Jm ?_
 cases c with
 | false=>exact hb pins s1 Gf H1 Q I1 q1
 | true=>exact⟨.bl true,H1,I1,rfl,q1⟩
def FL (t:TT)(ta tb:TE):TE:=fun Gf H Q=>t Gf H fun c H1=>if c=true then ta Gf H1 Q else tb Gf H1 Q
theorem fe {c:Expr}(hc:PT X c tA)(ha:PE X a ta)(hb:PE X b tb):PE X (.IfExp c a b pos) (FL tA ta tb):=by
 intro pins s Gf H Q I h
 refine wpAny_IfExp (bB (hc pins s Gf H _ I h) fun d s1 ⟨H1,I1,q1⟩=>?_)
 cases d with
 | true=>exact ha pins s1 Gf H1 Q I1 q1
 | false=>exact hb pins s1 Gf H1 Q I1 q1
end
def aO (K:Gh)(H:Hp)(a:Addr)(xs:List V):Prop :=
 Rd H a (.lst xs) \/
  ∃(o:Obj) (its:Array Value) (n:Nat),K.lookup a=some o/\o.cls=.type "list" /\ o.dict=none/\o.data=.seq its n/\its.size<=sizeLine/\Vals xs its.toList
def av (K:Gh)(H:Hp)(a:Addr)(xs:List V):Prop :=
 Rd H a (.tup xs) \/
  ∃(o:Obj) (its:Array Value) (n:Nat),K.lookup a=some o/\o.cls=.type "tuple" /\ o.data=.seq its n/\its.size<=sizeLine/\Vals xs its.toList
def Fc:Value->Option V
 | .none=>some .aZ
 | .bool b=>some (.bl b)
 | .int i _=>some (.int i)
 | .str x _=>some (.str x)
 | .bytes b _=>some (.jb b)
 | .float b _=>some (.rO b)
 | .ref a=>some (.ref a)
 | .type n=>some (.ty n)
 | _=>none
theorem RelV.abs {x:V}{u:Value}(r:RelV x u):Fc u=some x:=by
 cases x with
 | aZ=>cases r;rfl
 | bl _=>cases r;rfl
 | int _=>obtain⟨t,rfl⟩:=r;rfl
 | str _=>obtain⟨t,rfl⟩:=r;rfl
 | jb _=>obtain⟨t,rfl⟩:=r;rfl
 | rO _=>obtain⟨t,rfl⟩:=r;rfl
 | ref _=>cases r;rfl
 | ty _=>cases r;rfl
theorem RelV.inj {x y:V}{u:Value}(r:RelV x u)(q:RelV y u):x=y:=Gy.inj (r.abs.symm.trans q.abs)
theorem Vals.inj:∀{xs ys:List V} {us:List Value},Vals xs us->Vals ys us->xs=ys
 | _,_,_,.nil,.nil=>rfl
 | _,_,_,.cons r t,.cons r' t'=>by rw [r.inj r',Vals.inj t t']
section
variable {X:Cx}{pins:List (Addr×Obj)}{Gf : St}{H:Hp}{s:Shared}{a:Addr}{xs ys:List V}
theorem aO.of {K:Gh}(h:H a=some (.lst xs)):aO K H a xs:=.inl (.inl h)
theorem av.of {K:Gh}(h:H a=some (.tup xs)):av K H a xs:=.inl (.inl h)
theorem Inv.list (I:Inv X pins Gf H s)(h:aO X.K H a xs):∃its:List Value,Vals xs its/\PlainL s.heap a its.toArray/\xs.length<=sizeLine:=by
 rcases h with h | ⟨o,its,n,hk,hc,hd,hs,hz,r⟩
 ·obtain⟨z,its,n,r,e⟩:=h.ok I.aL
  exact⟨its,r,⟨_,n,e,rfl,rfl,rfl⟩,z⟩
 ·refine⟨its.toList,r,⟨o,n,I.en a o hk,hc,hd,by simpa using hs⟩,?_⟩
  have e:=r.length
  simp only [G7] at e
  omega
theorem Inv.tuple (I:Inv X pins Gf H s)(h:av X.K H a xs):∃its:List Value,Vals xs its/\IsTup s.heap a its.toArray/\xs.length<=sizeLine:=by
 rcases h with h | ⟨o,its,n,hk,hc,hs,hz,r⟩
 ·obtain⟨z,its,r,o,e,c,n,d,_⟩:=h.ok I.aL
  exact⟨its,r,⟨o,e,c,n,d⟩,z⟩
 ·refine⟨its.toList,r,⟨o,I.en a o hk,hc,n,by simpa using hs⟩,?_⟩
  have e:=r.length
  simp only [G7] at e
  omega
theorem Inv.zP (I:Inv X pins Gf H s)(h:aO X.K H a xs)(h':aO X.K H a ys):xs=ys:=by
 obtain⟨its,r,⟨o,n,e,_,_,d⟩,_⟩:=I.list h
 obtain⟨its',r',⟨o',n',e',_,_,d'⟩,_⟩:=I.list h'
 rw [e] at e';cases e'
 rw [d] at d'
 injection d' with d1 _
 have:its=its':=by simpa using congrArg Array.toList d1
 subst this
 exact r.inj r'
theorem Inv.lV (I:Inv X pins Gf H s)(h:av X.K H a xs)(h':av X.K H a ys):xs=ys:=by
 obtain⟨its,r,⟨o,e,_,n,d⟩,_⟩:=I.tuple h
 obtain⟨its',r',⟨o',e',_,n',d'⟩,_⟩:=I.tuple h'
 rw [e] at e';cases e'
 rw [d] at d'
 injection d' with d1 _
 have:its=its':=by simpa using congrArg Array.toList d1
 subst this
 exact r.inj r'
end
abbrev Cx.jQ (X:Cx)(E:Value->Shared->Prop):Cx:={ X with xe:=E }
abbrev Cx.nS (X:Cx):Cx:=X.jQ fun _ _=>False
theorem Cx.Ok.jQ {X:Cx}(ok:X.Ok)(E:Value->Shared->Prop):(X.jQ E).Ok :=
 ⟨ok.mod,ok.kind,ok.glob,ok.blt,ok.above,ok.inj,ok.has,ok.rP,ok.hd,ok.frames,ok.tL,ok.yg,ok.bs,ok.lI,ok.lU,ok.oz,ok.gC,ok.nR⟩
theorem Cx.Ok.iJ {X:Cx}{E:Value->Shared->Prop}(ok:(X.jQ E).Ok):X.Ok :=
 ⟨ok.mod,ok.kind,ok.glob,ok.blt,ok.above,ok.inj,ok.has,ok.rP,ok.hd,ok.frames,ok.tL,ok.yg,ok.bs,ok.lI,ok.lU,ok.oz,ok.gC,ok.nR⟩
section
variable {X:Cx}{pins:List (Addr×Obj)}{Gf : St}{H:Hp}{s:Shared}{E:Value->Shared->Prop}
theorem Inv.jQ (I:Inv X pins Gf H s)(E:Value->Shared->Prop):Inv (X.jQ E) pins Gf H s:=⟨I.ok.jQ E,I.os,I.bare,I.base,I.loc,I.cell,I.free,I.dz,I.pin,I.aL,I.len⟩
theorem Inv.iJ (I:Inv (X.jQ E) pins Gf H s):Inv X pins Gf H s:=⟨I.ok.iJ,I.os,I.bare,I.base,I.loc,I.cell,I.free,I.dz,I.pin,I.aL,I.len⟩
theorem SP.iJ {D:Ends}{f:Flow}{s':Shared}(h:SP (X.jQ E) pins D f s'):SP X pins D f s':=by
 cases f with
 | next=>obtain⟨σ',H',I,q⟩:=h;exact⟨σ',H',I.iJ,q⟩
 | brk=>obtain⟨σ',H',I,q⟩:=h;exact⟨σ',H',I.iJ,q⟩
 | cont=>obtain⟨σ',H',I,q⟩:=h;exact⟨σ',H',I.iJ,q⟩
 | ret u=>obtain⟨v,σ',H',I,r,q⟩:=h;exact⟨v,σ',H',I.iJ,r,q⟩
theorem fX.nS {st:List Stmt}{t:TS}(h:fX X.nS st t):fX X st t:=fun pins s Gf H D I hw =>
 IY (h pins s Gf H D (I.jQ _) hw) (fun _ _ q=>q.iJ) fun _ _ z=>False.elim z
end
section
variable {X:Cx}{st:Stmt}{rest:List Stmt}{t u:TS}{e:Expr}{te:TE}{pos:Pos}
def En:TS:=fun D Gf H=>D.nx Gf H
def Fd (t u:TS):TS:=fun D Gf H=>t { D with nx:=u D } Gf H
theorem aM:fX X [] En:=fun _ _ Gf H _ I h=>Ju ⟨Gf,H,I,h⟩
theorem ae (h1:PS X st t)(h2:fX X rest u):fX X (st::rest) (Fd t u):=by
 intro pins s Gf H D I h
 refine wpAny_execs_cons (bB (h1 pins s Gf H { D with nx:=u D } I h) fun f s1 q=>?_)
 cases f with
 | next =>
  obtain⟨σ',H',I',q⟩:=q
  exact h2 pins s1 σ' H' D I' q
 | ret v=>exact q
 | brk=>exact q
 | cont=>exact q
theorem ah (h1:PS X st t):fX X [st] t:=by
 intro pins s Gf H D I h
 refine wpAny_execs_cons (bB (h1 pins s Gf H D I h) fun f s1 q=>?_)
 cases f with
 | next=>exact Ju q
 | ret v=>exact q
 | brk=>exact q
 | cont=>exact q
theorem Inv.quiet {pins:List (Addr×Obj)}{Gf : St}{H:Hp}{s:Shared}(I:Inv X pins Gf H s):interactive X.env=false:=by simp [interactive,I.ok.kind]
def Eo (te:TE):TS:=fun D Gf H=>te Gf H fun _ H1=>D.nx Gf H1
theorem cf (he:PE X e te)(hs:swapsWith e none pos.line X.env=pure false:=by rfl):PS X (.Expr e pos) (Eo te):=by
 intro pins s Gf H D I h
 exact wpAny_Expr_any (bB (he pins s Gf H _ I h) fun v s1 ⟨x,H1,I1,r1,q1⟩=>⟨Gf,H1,I1,q1⟩) I.quiet hs
def C9 (te:TE):TS:=fun D Gf H=>te Gf H D.rt
theorem aF (he:PE X e te):PS X (.Return (some e) pos) (C9 te):=by
 intro pins s Gf H D I h
 exact wpAny_Return_some (bB (he pins s Gf H _ I h) fun v s1 ⟨x,H1,I1,r1,q1⟩=>⟨x,Gf,H1,I1,r1,q1⟩)
def Fe (c:TT)(t u:TS):TS:=fun D Gf H=>c Gf H fun b H1=>if b=true then t D Gf H1 else u D Gf H1
theorem bg {c:Expr}{a b:List Stmt}{tc:TT}(hc:PT X c tc)(ha:fX X a t)(hb:fX X b u):PS X (.If c a b pos) (Fe tc t u):=by
 intro pins s Gf H D I h
 refine wpAny_If (bB (hc pins s Gf H _ I h) fun d s1 ⟨H1,I1,q1⟩=>?_)
 cases d with
 | true=>exact ha pins s1 Gf H1 D I1 q1
 | false=>exact hb pins s1 Gf H1 D I1 q1
end
abbrev TG:=V->St->Hp->(St->Hp->Prop)->Prop
abbrev tQ:=List V->St->Hp->(St->Hp->Prop)->Prop
def PG (X:Cx)(target:Expr)(t:TG):Prop :=
 ∀(pins:List (Addr×Obj)) (s:Shared) (Gf : St) (H:Hp) (v:V) (u:Value) (Q:St->Hp->Prop),Inv X pins Gf H s->RelV v u->t v Gf H Q ->
  wpAny (model X.prog X.w) X.A (assign target X.env u) (fun _ s'=>∃σ' H',Inv X pins σ' H' s'/\Q σ' H') X.xe s
def Bt (X:Cx)(ts:List Expr)(t:tQ):Prop :=
 ∀(pins:List (Addr×Obj)) (s:Shared) (Gf : St) (H:Hp) (vs:List V) (us:List Value) (Q:St->Hp->Prop),Inv X pins Gf H s->Vals vs us->t vs Gf H Q ->
  wpAny (model X.prog X.w) X.A (assignInOrder ((assignEach ts X.env).map (·.2)) us) (fun _ s'=>∃σ' H',Inv X pins σ' H' s'/\Q σ' H') X.xe s
abbrev zQ:=V->V->V->Hp->(Hp->Prop)->Prop
def zR (X:Cx)(t:zQ):Prop :=
 ∀(pins:List (Addr×Obj)) (s:Shared) (Gf : St) (H:Hp) (o i v:V) (ov iv u:Value) (Q:Hp->Prop),Inv X pins Gf H s->RelV o ov->RelV i iv->RelV v u->t o i v H Q ->
  wpAny (model X.prog X.w) X.A (setItem ov iv u) (fun _ s'=>∃H',Inv X pins Gf H' s'/\Q H') X.xe s
section
variable {X:Cx}{pos:Pos}
def m5 (i:Nat):TG:=fun v Gf H Q=>Q (Gf.set i (some v)) H
theorem BO {i:Nat}{x:Str}(hN:X.N.Nodup)(hi:X.N[i]?=some x)(hx:Loc X.env.scope x)(hf:X.fn x=true\/X.env.scope.names.lookup x=some .local:=by first | exact .inl rfl | exact .inr rfl | assumption):PG X (.Name x pos) (m5 i):=by
 intro pins s Gf H v u Q I r h
 exact wpAny_assign_Name (jc I hN hi hx r (fun s' I'=>⟨_,H,I',h⟩) hf)
def Ff:tQ:=fun vs Gf H Q=>vs=[]/\Q Gf H
inductive Ep (t:TG) (u:tQ) (vs:List V) (Gf : St) (H:Hp) (Q:(St->Hp->Prop)):Prop
 | mk (v r:_) (_:vs=v::r) (_:t v Gf H fun σ' H'=>u r σ' H' Q)
theorem cC:Bt X [] Ff:=by
 intro pins s Gf H vs us Q I r h
 obtain⟨e,h⟩:=h
 subst e
 cases r
 exact assignInOrder_nil ⟨Gf,H,I,h⟩
theorem bc {e:Expr}{es:List Expr}{t:TG}{u:tQ}(h1:PG X e t)(h2:Bt X es u)
  (hs:(assignEach (e::es) X.env).map (·.2)=assign e X.env::(assignEach es X.env).map (·.2):=by rfl):Bt X (e::es) (Ep t u):=by
 intro pins s Gf H vs us Q I r h
 obtain⟨v,vr,e1,h⟩:=h
 subst e1
 cases r with
 | cons r rr =>
  rw [hs]
  refine assignInOrder_cons (bB (h1 pins s Gf H _ _ _ I r h) fun _ s1 ⟨σ1,H1,I1,q1⟩=>?_)
  exact h2 pins s1 σ1 H1 _ _ Q I1 rr q1
inductive zS (K:Gh) (n:Nat) (t:tQ) (v:V) (Gf : St) (H:Hp) (Q:(St->Hp->Prop)):Prop
 | mk (a xs:_) (_:v=.ref a) (_:av K H a xs) (_:xs.length=n) (_:t xs Gf H Q)
theorem cZ {es:List Expr}{k:Nat}{t:tQ}{n:Nat}(hc:X.calm=true)(h:Bt X es t)
  (hn:(assignEach es X.env).length=n:=by rfl) (hst:(assignEach es X.env).findIdx? (·.1)=none:=by rfl):PG X (.Tuple es k pos) (zS X.K n t):=by
 intro pins s Gf H v u Q I r hw
 obtain⟨a,xs,e1,hq,hl,hw⟩:=hw
 subst e1
 cases r
 obtain⟨its,rv,ht,hz⟩:=I.tuple hq
 refine assign_Tuple_tuple (I.ok.hd hc) ht (by simp [hn,<-hl,rv.length]) hst fun h' hx=>?_
 have I1:Inv X pins Gf H { s with heap:=h' }:=I.kept (t':=s.toks) fun b o e=>hx b o (Gs (Gm e)) e
 exact h pins _ Gf H xs _ Q I1 (by simpa using rv) hw
def Fg (to ti:TE)(t:zQ):TG:=fun v Gf H Q=>to Gf H fun o H1=>ti Gf H1 fun i H2=>t o i v H2 fun H3=>Q Gf H3
theorem pI {o i:Expr}{to ti:TE}{t:zQ}(ho:PE X o to)(hi:PE X i ti)(hs:zR X t)
  (ha:∀v,assign (.Subscript o i pos) X.env v=(do
   let ov <-holding [v] (eval o X.env)
   let iv <-holding [v,ov] (eval i X.env)
   standAt pos
   holding [v,ov,iv] (setItem ov iv v)
   release [v,ov,iv] []):=by intro _;rfl):PG X (.Subscript o i pos) (Fg to ti t):=by
 intro pins s Gf H v u Q I r h
 rw [ha]
 refine IW (IZ (bB (ho pins s Gf H _ I h) fun ov s1 ⟨x,H1,I1,r1,q1⟩=>?_))
 refine IW (IZ (bB (hi pins s1 Gf H1 _ I1 q1) fun iv s2 ⟨y,H2,I2,r2,q2⟩=>?_))
 refine IW (Jn (IW (IZ (bB (hs pins s2 Gf H2 x y v ov iv u _ I2 r1 r2 r q2) fun _ s3 ⟨H3,I3,q3⟩=>?_))))
 exact wpAny_release ⟨Gf,H3,I3,q3⟩
def wW (te:TE)(g:TG):TS:=fun D Gf H=>te Gf H fun x H1=>g x Gf H1 D.nx
theorem dG {tg e:Expr}{te:TE}{g:TG}(he:PE X e te)(hg:PG X tg g)(hs:swapsWithSole [tg] e pos.line X.env=pure false:=by rfl)(hw:swappedStores [tg] e X.env=pure none:=by rfl)
  (h1:(assignEach [tg] X.env).map (·.2)=[assign tg X.env]:=by rfl):PS X (.Assign [tg] e pos) (wW te g):=by
 intro pins s Gf H D I h
 refine wpAny_Assign_stores (bB (he pins s Gf H _ I h) fun v s1 ⟨x,H1,I1,r1,q1⟩=>?_) hs hw
 rw [h1]
 exact bB (hg pins s1 Gf H1 x v _ I1 r1 q1) fun _ s2 q=>q
theorem Dc {i:Nat}{x:Str}{e:Expr}{te:TE}{pos':Pos}(hN:X.N.Nodup)(hi:X.N[i]?=some x)(hx:Loc X.env.scope x)(he:PE X e te)(hs:swapsWith e (some (.Name x pos')) pos.line X.env=pure false:=by rfl)(hf:X.fn x=true\/X.env.scope.names.lookup x=some .local:=by first | exact .inl rfl | exact .inr rfl | assumption) :
  PS X (.Assign [.Name x pos'] e pos) (wW te (m5 i)):=by
 intro pins s Gf H D I h
 refine wpAny_Assign_Name (bB (he pins s Gf H _ I h) fun v s1 ⟨y,H1,I1,r1,q1⟩=>?_) hs
 exact jc I1 hN hi hx r1 (fun s2 I2=>⟨_,H1,I2,q1⟩) hf
inductive BP (i:Nat) (j:Nat) (D:Ends) (Gf : St) (vs:List V) (H1:Hp):Prop
 | mk (v w:_) (_:vs=[v,w]) (_:D.nx ((Gf.set i (some v)).set j (some w)) H1)
def Fh (i j:Nat)(ta:TA):TS:=fun D Gf H=>ta Gf H fun vs H1=>BP i j D Gf vs H1
theorem Dd {i j:Nat}{x y:Str}{a b:Expr}{ta:TA}{px py pt:Pos}{kt k2 pt2}(hc:X.calm=true)(hN:X.N.Nodup)(hi:X.N[i]?=some x)(hj:X.N[j]?=some y)(hij:i≠j)
  (hx:X.env.scope.names.lookup x=some .local) (hy:X.env.scope.names.lookup y=some .local) (ha:PA X [a,b] ta)
  (hw:swappedStores [.Tuple [.Name x px,.Name y py] kt pt] (.Tuple [a,b] k2 pt2) X.env=pure (some [x,y]))
  (hs:swapsWithSole [.Tuple [.Name x px,.Name y py] kt pt] (.Tuple [a,b] k2 pt2) pos.line X.env=pure false:=by rfl) :
  PS X (.Assign [.Tuple [.Name x px,.Name y py] kt pt] (.Tuple [a,b] k2 pt2) pos) (Fh i j ta):=by
 intro pins s Gf H D I h
 rw [exec_Assign_arm]
 refine IW (Jn ?_)
 rw [hs]
 refine IW (IX ?_)
 rw [if_neg (by decide)]
 refine IW (Tuple_ (bB (ha _ pins s Gf H _ I h) fun us s1 ⟨vs,H1,I1,r1,q1⟩=>?_))
 obtain⟨v,w,e1,q1⟩:=q1
 subst e1
 obtain⟨u1,u2,rfl,rv,rw'⟩:∃u1 u2,us=[u1,u2]/\RelV v u1/\RelV w u2:=by
  cases r1 with
  | cons p q =>
   cases q with
   | cons p' q' =>
    cases q'
    exact⟨_,_,rfl,p,p'⟩
 refine Jc ?_ (by show 2<=sizeLine;decide)
 have I2:Inv X pins Gf H1 { s1 with heap:=s1.heap.push { cls:=.type "tuple",data:=.seq [u1,u2].toArray } }:=I1.kept (t':=s1.toks) fun b o e=>Gp _ e
 rw [hw]
 refine IW (IX ?_)
 show wpAny (model X.prog X.w) X.A (do rule "assign.swapped-stores";let items <-unpackItems (.ref s1.heap.objs.size) 2 none;assignInOrder [fun v=>bindName X.env y v,fun v=>bindName X.env x v] items.reverse;pure Flow.next) _ _ _
 refine IW (Jg (IW (unpackItems_tuple (items:=#[u1,u2]) (I.ok.hd hc) (IsTup.new s1.heap _) fun h' hx'=>?_)))
 have I3:=I2.kept (h':=h') (t':=s1.toks) fun b o e=>hx' b o (Gs (Gm e)) e
 show wpAny _ _ (assignInOrder [fun v=>bindName X.env y v,fun v=>bindName X.env x v] [u2,u1] >>= fun _=>pure Flow.next) _ _ _
 refine IW (assignInOrder_cons (wpAny_bindName (jc I3 hN hj (.inl hy) rw' (fun s2 I4=>?_) (.inr hy))))
 refine assignInOrder_cons (wpAny_bindName (jc I4 hN hi (.inl hx) rv (fun s3 I5=>assignInOrder_nil (IX ?_)) (.inr hx)))
 rw [List.set_comm _ _ (Ne.symm hij)] at I5
 exact⟨_,H1,I5,q1⟩
end
section
variable {X:Cx}{pos:Pos}
def De (c:TT)(tb:TS):TS:=fun D Gf H=>∃W:Nat->St->Hp->Prop,(∃m,W m Gf H)/\∀m Gf H,W m Gf H ->
 c Gf H fun b H1=>if b=true then ∃N:St->Hp->Prop,(∀σ' H',N σ' H'->∃m',m' < m/\W m' σ' H')/\tb { D with nx:=N,ct:=N,bk:=D.nx } Gf H1 else D.nx Gf H1
theorem jd {c:Expr}{body:List Stmt}{tc:TT}{tb:TS}(hp:PassesOwn (model X.prog X.w) X.A X.env X.xe)(hc:PT X c tc)(hb:fX X body tb):PS X (.While c body [] pos) (De tc tb):=by
 intro pins s Gf H D I h
 obtain⟨W,⟨m0,w0⟩,turn⟩:=h
 refine wpAny_While (codeAny_whileLoop (fun n s'=>∃σ' H',Inv X pins σ' H' s'/\W n σ' H') ?_ m0 ⟨Gf,H,I,w0⟩)
 rintro n s1 ⟨σ1,H1,I1,w1⟩
 refine Jk hp (bB (hc pins s1 σ1 H1 _ I1 (turn n σ1 H1 w1)) fun b s2 ⟨H2,I2,q2⟩=>?_)
 cases b with
 | true =>
  obtain⟨N,hN,q2⟩:=q2
  rw [if_pos rfl]
  refine Jk hp (bB (hb pins s2 σ1 H2 _ I2 q2) fun f s3 q3=>?_)
  cases f with
  | next =>
   obtain⟨σ3,H3,I3,n3⟩:=q3
   obtain⟨m',hm,w3⟩:=hN σ3 H3 n3
   exact⟨m',hm,σ3,H3,I3,w3⟩
  | cont =>
   obtain⟨σ3,H3,I3,n3⟩:=q3
   obtain⟨m',hm,w3⟩:=hN σ3 H3 n3
   exact⟨m',hm,σ3,H3,I3,w3⟩
  | brk=>exact q3
  | ret v=>exact q3
 | false =>
  rw [if_neg GJ]
  exact Ju ⟨σ1,H2,I2,q2⟩
end
structure It where
 go:Nat->Hp->Prop
 vG:Nat->Hp->V->Hp->Prop
 stop:Nat->Hp->Prop
def je (X:Cx)(pins:List (Addr×Obj))(H:Hp)(b:Addr):Prop :=
 H b=none/\b≠X.env.locals/\b∉X.fs/\(b∈X.ex\/X.dJ.heap.objs.size<=b)/\(∀x c,X.env.cells.lookup x=some c->c≠b)/\∀p∈X.pn++pins,p.1≠b
theorem Inv.oB {X:Cx}{pins:List (Addr×Obj)}{Gf : St}{H H':Hp}{s:Shared}{b:Addr}(I:Inv X pins Gf H s)(hb:s.heap.objs.size<=b)(hn:H' b=none):je X pins H' b:=by
 refine⟨hn,Hk (GO I.lt hb),I.E6 hb,.inr (Gr I.sz hb),fun x c e z=>?_,fun p hp z=>?_⟩
 ·obtain⟨v,q⟩:=I.cell x c e
  exact absurd (GO q.lt (by rw [z];exact hb)) (G1 _)
 ·exact absurd (GO (Gm (I.pin p hp).1) (by rw [z];exact hb)) (G1 _)
structure Turn (P:Program) (w:World) (K:Gh) (tg:Expr) (J:It) (fp:List Addr) (it:Addr) (tn:Nat->Heap->Prop):Prop where
 mem:it∈fp
 obj:∀i h,tn i h->∀b∈fp,∃o,h.get? b=some o/\∀v,o.data≠.cell v
 keep:∀i h h',tn i h->(∀b∈fp,∀o,h.get? b=some o->h'.get? b=some o)->tn i h'
 item:∀(X:Cx),X.prog=P->X.w=w->X.K=K->X.calm=true->∀(i:Nat) (pins:List (Addr×Obj)) (s:Shared) (Gf : St) (H:Hp) (E:Value->Shared->Prop),Inv X pins Gf H s->(∀b∈fp,je X pins H b)->tn i s.heap->J.go i H ->
  wpAny (model P w) X.A (pyNext (.ref it)) (fun r s1=>∃u,r=some u /\
   wpAny (model P w) X.A (letOwnedTupleGo tg (.ref it) u) (fun _ s2=>∃x H',Inv X pins Gf H' s2/\RelV x u/\J.vG i H x H'/\tn (i+1) s2.heap/\∀b∈fp,H' b=none) E s1) E s
 done:∀(X:Cx),X.prog=P->X.w=w->X.K=K->X.calm=true->∀(i:Nat) (pins:List (Addr×Obj)) (s:Shared) (Gf : St) (H:Hp) (E:Value->Shared->Prop),Inv X pins Gf H s->(∀b∈fp,je X pins H b)->tn i s.heap->J.stop i H ->
  wpAny (model P w) X.A (pyNext (.ref it)) (fun r s1=>r=none/\Inv X pins Gf H s1) E s
 self:∀(A:Around) (i:Nat) (s:Shared) (Q:Value->Shared->Prop) (E:Value->Shared->Prop),tn i s.heap->Q (.ref it) s->wpAny (model P w) A (pyIter (.ref it)) Q E s
abbrev TI:=St->Hp->(It->Hp->Prop)->Prop
def ER (X:Cx)(pins:List (Addr×Obj))(Gf : St)(tg:Expr)(R:It->Hp->Prop)(itv:Value)(s2:Shared):Prop :=
 ∃(it:Addr) (fp:List Addr) (tn:Nat->Heap->Prop) (J:It) (H':Hp),itv=.ref it/\Inv X pins Gf H' s2/\Turn X.prog X.w X.K tg J fp it tn/\tn 0 s2.heap/\(∀b∈fp,je X pins H' b)/\R J H'
def PI (X:Cx)(tg iter:Expr)(wi:TI):Prop :=
 ∀(pins:List (Addr×Obj)) (s:Shared) (Gf : St) (H:Hp) (R:It->Hp->Prop),Inv X pins Gf H s->wi Gf H R ->
  wpAny (model X.prog X.w) X.A (eval iter X.env) (fun v s1=>wpAny (model X.prog X.w) X.A (pyIter v) (ER X pins Gf tg R) X.xe s1) X.xe s
theorem tE {M:Model}{A:Around}{E:Value->Shared->Prop}{s:Shared}{tg:Expr}{it:Addr}{u:Value}{o:Obj}{n:String}{vs:Array Value}{Q:Unit->Shared->Prop}(ho:s.heap.get? it=some o)(hc:o.cls=.type n)(hd:o.data=.fields vs)
    (hn:["enumerate", "zip", "dict_itemiterator", "dict_reverseitemiterator", "odict_iterator", "itertools.zip_longest", "itertools.pairwise"].contains n=false) (hQ:Q () s):wpAny M A (letOwnedTupleGo tg (.ref it) u) Q E s:=by
  unfold letOwnedTupleGo
  cases tg <;> first
    | exact IX hQ
    | (cases u <;> first
        | exact IX hQ
        | (refine IW (wpAny_load ho ?_)
           rw [hc,hd]
           show wpAny M A (if (["enumerate", "zip", "dict_itemiterator", "dict_reverseitemiterator", "odict_iterator", "itertools.zip_longest", "itertools.pairwise"].contains n&&vs[0]? == some (rawInt _))=true then _ else _) Q E s
           rw [if_neg (by intro h;rw [hn,Bool.false_and] at h;cases h)]
           exact IX hQ))
def vH (K:Gh)(a:Addr):It :=
 ⟨fun i H=>∃xs x,aO K H a xs/\xs[i]?=some x,fun i H x H'=>H' = H/\∀xs,aO K H a xs->xs[i]?=some x,fun i H=>∃xs,aO K H a xs/\xs.length<=i⟩
def vI (K:Gh)(a:Addr):It :=
 ⟨fun i H=>∃xs x,av K H a xs/\xs[i]?=some x,fun i H x H'=>H' = H/\∀xs,av K H a xs->xs[i]?=some x,fun i H=>∃xs,av K H a xs/\xs.length<=i⟩
def tR (lo:Int)(n:Nat):It:=⟨fun i _=>i<n,fun i H x H'=>H' = H/\x=.int (lo+i),fun i _=>n<=i⟩
theorem yi {P:Program}{w:World}{K:Gh}{tg:Expr}(a it:Addr):Turn P w K tg (vH K a) [it] it (fun i h=>h.IsListIter it a i) where
 mem:=by simp
 obj:=fun i h st b hb=>by
  have e:b=it:=by simpa using hb
  subst e
  obtain⟨o,e,c,d⟩:=st
  exact⟨o,e,fun v z=>by rw [d] at z;cases z⟩
 keep:=fun i h h' st k=>st.at fun o e=>k it (by simp) o e
 item:=by
  intro X hP hw hK hc i pins s Gf H E I hf st hg
  subst hP hw hK
  obtain⟨xs,x,hq,hx⟩:=hg
  obtain⟨its,rv,p,hz⟩:=I.list hq
  obtain⟨u,hu,ru⟩:=rv.get hx
  obtain⟨f0,f1,f2,f3,f4,f5⟩:=hf it (by simp)
  refine wpAny_pyNext_list_item st p.isList (x:=u) (by simpa using hu) fun h' st' sb=>?_
  have I1:Inv X pins Gf H { s with heap:=h' }:=I.turned (t':=s.toks) (fun b o hb e=>(sb.2 b hb).trans e) f0 f1 f3 f4 f5
  obtain⟨o,e,c,d⟩:=id st'
  exact⟨u,rfl,tE (s:={ s with heap:=h' }) e c d (by decide) ⟨x,H,I1,ru,⟨rfl,fun ys hy=>by rw [I.zP hy hq];exact hx⟩,st',fun b hb=>(hf b hb).1⟩⟩
 done:=by
  intro X hP hw hK hc i pins s Gf H E I hf st hg
  subst hP hw hK
  obtain⟨xs,hq,hx⟩:=hg
  obtain⟨its,rv,p,hz⟩:=I.list hq
  obtain⟨f0,f1,f2,f3,f4,f5⟩:=hf it (by simp)
  have hl:=rv.length
  exact wpAny_pyNext_list_end (I.ok.hd hc) st p.isList (by simp;omega) fun h' eb=>⟨rfl,I.turned (t':=s.toks) (fun b o hb e=>eb b o hb e) f0 f1 f3 f4 f5⟩
 self:=fun _ _ _ _ _ st h=>wpAny_pyIter_listiter st h
theorem wX {P:Program}{w:World}{K:Gh}{tg:Expr}(a it:Addr):Turn P w K tg (vI K a) [it] it (fun i h=>h.IsTupleIter it a i) where
 mem:=by simp
 obj:=fun i h st b hb=>by
  have e:b=it:=by simpa using hb
  subst e
  obtain⟨o,e,c,d⟩:=st
  exact⟨o,e,fun v z=>by rw [d] at z;cases z⟩
 keep:=fun i h h' st k=>st.at fun o e=>k it (by simp) o e
 item:=by
  intro X hP hw hK hc i pins s Gf H E I hf st hg
  subst hP hw hK
  obtain⟨xs,x,hq,hx⟩:=hg
  obtain⟨its,rv,p,hz⟩:=I.tuple hq
  obtain⟨u,hu,ru⟩:=rv.get hx
  obtain⟨f0,f1,f2,f3,f4,f5⟩:=hf it (by simp)
  refine wpAny_pyNext_tuple_item st (show s.heap.IsTuple a its.toArray from p) (x:=u) (by simpa using hu) fun h' st' sb=>?_
  have I1:Inv X pins Gf H { s with heap:=h' }:=I.turned (t':=s.toks) (fun b o hb e=>(sb.2 b hb).trans e) f0 f1 f3 f4 f5
  obtain⟨o,e,c,d⟩:=id st'
  exact⟨u,rfl,tE (s:={ s with heap:=h' }) e c d (by decide) ⟨x,H,I1,ru,⟨rfl,fun ys hy=>by rw [I.lV hy hq];exact hx⟩,st',fun b hb=>(hf b hb).1⟩⟩
 done:=by
  intro X hP hw hK hc i pins s Gf H E I hf st hg
  subst hP hw hK
  obtain⟨xs,hq,hx⟩:=hg
  obtain⟨its,rv,p,hz⟩:=I.tuple hq
  obtain⟨f0,f1,f2,f3,f4,f5⟩:=hf it (by simp)
  have hl:=rv.length
  exact wpAny_pyNext_tuple_end (I.ok.hd hc) st (show s.heap.IsTuple a its.toArray from p) (by simp;omega) fun h' eb=>⟨rfl,I.turned (t':=s.toks) (fun b o hb e=>eb b o hb e) f0 f1 f3 f4 f5⟩
 self:=fun _ _ _ _ _ st h=>wpAny_pyIter_tupleiter st h
theorem wY {P:Program}{w:World}{K:Gh}{tg:Expr}(it:Addr)(lo:Int)(n:Nat):Turn P w K tg (tR lo n) [it] it (fun i h=>IsRangeIter h it (lo+(i:Nat)*1) ((n:Int)-(i:Nat)) 1) where
 mem:=by simp
 obj:=fun i h st b hb=>by
  have e:b=it:=by simpa using hb
  subst e
  exact⟨_,st,fun v z=>by
   have z':Data.fields _=Data.cell v:=z
   cases z'⟩
 keep:=fun i h h' st k=>k it (by simp) _ st
 item:=by
  intro X hP hw hK hc i pins s Gf H E I hf st hg
  subst hP hw hK
  obtain⟨f0,f1,f2,f3,f4,f5⟩:=hf it (by simp)
  have W:=Walks.range (prog:=X.prog) (w:=X.w) (I.ok.hd hc) it lo 1 n
  refine W.item i s _ _ hg st fun v h' tk hv st' kk=>?_
  obtain⟨t,rfl⟩:=hv
  have I1:Inv X pins Gf H { s with heap:=h',toks:=tk }:=I.turned (fun b o hb e=>kk b o (by simpa using hb) e) f0 f1 f3 f4 f5
  refine⟨_,rfl,tE (s:={ s with heap:=h',toks:=tk }) (n := "range_iterator") st' rfl rfl (by decide) ⟨.int (lo+i),H,I1,⟨t,?_⟩,⟨rfl,rfl⟩,st',fun b hb=>(hf b hb).1⟩⟩
  rw [Int.mul_one]
 done:=by
  intro X hP hw hK hc i pins s Gf H E I hf st hg
  subst hP hw hK
  obtain⟨f0,f1,f2,f3,f4,f5⟩:=hf it (by simp)
  exact wpAny_pyNext_range_end (I.ok.hd hc) st (by have:n<=i:=hg;omega) fun h' eb=>⟨rfl,I.turned (t':=s.toks) (fun b o hb e=>eb b o hb e) f0 f1 f3 f4 f5⟩
 self:=fun _ _ _ _ _ st h=>wpAny_pyIter_rangeiter st h
section
variable {X:Cx}{tg:Expr}
inductive zT (K:Gh) (R:(It->Hp->Prop)) (x:V) (H1:Hp):Prop
 | mk (a:_) (_:x=.ref a) (_:(∃xs,aO K H1 a xs)) (_:R (vH K a) H1)
def Er (K:Gh)(tl:TE):TI:=fun Gf H R=>tl Gf H fun x H1=>zT K R x H1
inductive BQ (K:Gh) (R:(It->Hp->Prop)) (x:V) (H1:Hp):Prop
 | mk (a:_) (_:x=.ref a) (_:(∃xs,av K H1 a xs)) (_:R (vI K a) H1)
def Fi (K:Gh)(tl:TE):TI:=fun Gf H R=>tl Gf H fun x H1=>BQ K R x H1
theorem fA {l:Expr}{tl:TE}(hl:PE X l tl):PI X tg l (Er X.K tl):=by
 intro pins s Gf H R I h
 refine bB (hl pins s Gf H _ I h) fun v s1 ⟨x,H1,I1,r1,q1⟩=>?_
 obtain⟨a,e,⟨xs,hq⟩,q⟩:=q1
 subst e
 cases r1
 obtain⟨its,rv,p,hz⟩:=I1.list hq
 refine wpAny_pyIter_list p.isList ?_
 refine⟨s1.heap.objs.size,[s1.heap.objs.size],_,_,H1,rfl,I1.kept (t':=s1.toks) fun b o e=>Gp _ e,yi a _,⟨_,Gu _ rfl,rfl,rfl⟩,fun b hb=>?_,q⟩
 have e:b=s1.heap.objs.size:=by simpa using hb
 subst e
 exact I1.oB (Gj _) (I1.aL.fresh (Gj _))
theorem er {l:Expr}{tl:TE}(hl:PE X l tl):PI X tg l (Fi X.K tl):=by
 intro pins s Gf H R I h
 refine bB (hl pins s Gf H _ I h) fun v s1 ⟨x,H1,I1,r1,q1⟩=>?_
 obtain⟨a,e,⟨xs,hq⟩,q⟩:=q1
 subst e
 cases r1
 obtain⟨its,rv,p,hz⟩:=I1.tuple hq
 refine Jv (show s1.heap.IsTuple a its.toArray from p) ?_
 refine⟨s1.heap.objs.size,[s1.heap.objs.size],_,_,H1,rfl,I1.kept (t':=s1.toks) fun b o e=>Gp _ e,wX a _,⟨_,Gu _ rfl,rfl,rfl⟩,fun b hb=>?_,q⟩
 have e:b=s1.heap.objs.size:=by simpa using hb
 subst e
 exact I1.oB (Gj _) (I1.aL.fresh (Gj _))
theorem zU {pins:List (Addr×Obj)}{Gf : St}{H:Hp}{s:Shared}{R:It->Hp->Prop}{E:Value->Shared->Prop}{lo hi:Int}{t u v:Tok}{tk:Nat}(I:Inv X pins Gf H s)(h1:-(2 ^ 62)<=lo)(h2:lo<2 ^ 62)(h3:-(2 ^ 62)<=hi)(h4:hi<2 ^ 62)
  (q:R (tR lo (hi-lo).toNat) H):wpAny (model X.prog X.w) X.A (pyIter (.ref s.heap.objs.size)) (ER X pins Gf tg R) E { s with heap:=s.heap.push { cls:=.type "range",data:=.fields #[.int lo t,.int hi u,.int 1 v] },toks:=tk }:=by
 refine wpAny_pyIter_range (IsRange.new ..) (small_one h1 h2 h3 h4) ?_
 have I1:Inv X pins Gf H { s with heap:=s.heap.push { cls:=.type "range",data:=.fields #[.int lo t,.int hi u,.int 1 v] },toks:=tk }:=I.kept fun b o e=>Gp _ e
 refine⟨(s.heap.push { cls:=.type "range",data:=.fields #[.int lo t,.int hi u,.int 1 v] }).objs.size,[(s.heap.push { cls:=.type "range",data:=.fields #[.int lo t,.int hi u,.int 1 v] }).objs.size],_,_,H,rfl,
  I1.kept (t':=tk) fun b o e=>Gp _ e,wY _ lo (hi-lo).toNat,?_,fun b hb=>?_,q⟩
 ·have e1:lo+((0:Nat):Int)*1=lo:=by simp
  have e2:(((hi-lo).toNat:Nat):Int)-((0:Nat):Int)=Builtin.Range.rangeSize lo hi 1:=by rw [rangeSize_one];split <;> omega
  show IsRangeIter _ _ (lo+((0:Nat):Int)*1) ((((hi-lo).toNat:Nat):Int)-((0:Nat):Int)) 1
  rw [e1,e2]
  exact Gu _ rfl
 ·have e:b=(s.heap.push { cls:=.type "range",data:=.fields #[.int lo t,.int hi u,.int 1 v] }).objs.size:=by simpa using hb
  subst e
  exact I1.oB (Gj _) (I1.aL.fresh (Gj _))
inductive zV (R:(It->Hp->Prop)) (vs:List V) (H1:Hp):Prop
 | mk (j:Int) (_:vs=[.int j]) (_:-(2 ^ 62)<=j) (_:j<2 ^ 62) (_:R (tR 0 j.toNat) H1)
def Es (ta:TA):TI:=fun Gf H R=>ta Gf H fun vs H1=>zV R vs H1
theorem e7 {a:Expr} {ta:TA} {p pos:Pos} (hg:Gl X "range") (hm:X.mg "range" = none) (ha:PA X [a] ta) (hs:starEach [a] X.env=[(false,eval a X.env)]:=by rfl):PI X tg (.Call (.Name "range" p) [a] [] pos) (Es ta):=by
 intro pins s Gf H R I h
 refine Call_ (j5 I hg hm boot_range (PyProof.Rows.callWith_type1 (bB (ha pos pins s Gf H _ I h) fun us s1 ⟨vs,H1,I1,r1,q1⟩=>?_) hs rfl))
 obtain⟨j,e,q1,q2,q⟩:=q1
 subst e
 cases r1 with
 | cons r rr =>
  cases rr
  obtain⟨t,rfl⟩:=r
  exact call_range_1 (zU I1 (by omega) (by omega) q1 q2 (by simpa using q))
def Fj (wi:TI)(g:TG)(tb:TS):TS:=fun D Gf H=>wi Gf H fun J H1=>∃W:Nat->Nat->St->Hp->Prop,(∃m,W 0 m Gf H1)/\∀i m Gf H,W i m Gf H ->
 (J.stop i H/\D.nx Gf H)\/(J.go i H/\∃N:St->Hp->Prop,(∀σ' H',N σ' H'->∃m',m' < m/\W (i+1) m' σ' H')/\∀x H',J.vG i H x H'->g x Gf H' fun σ2 H2=>tb { D with nx:=N,ct:=N,bk:=D.nx } σ2 H2)
def lW (fp:List Addr)(h:Heap):List (Addr×Obj):=fp.filterMap fun b=>(h.get? b).map fun o=>(b,o)
theorem i6 {fp:List Addr}{h:Heap}{b:Addr}{o:Obj}(hb:b∈fp)(e:h.get? b=some o):(b,o)∈lW fp h:=Ic.mpr ⟨b,hb,by rw [e];rfl⟩
theorem yj {fp:List Addr}{h:Heap}{p:Addr×Obj}(hp:p∈lW fp h):p.1∈fp/\h.get? p.1=some p.2:=by
 obtain⟨b,hb,e⟩:=Ic.mp hp
 cases q:h.get? b with
 | none=>rw [q] at e;cases e
 | some o =>
  rw [q] at e
  have e':(b,o)=p:=Gy.inj e
  subst e'
  exact⟨hb,q⟩
theorem Inv.pinned {pins:List (Addr×Obj)}{Gf : St}{H:Hp}{s:Shared}{fp:List Addr}(I:Inv X pins Gf H s)(hf:∀b∈fp,je X pins H b)(ho:∀b∈fp,∃o,s.heap.get? b=some o/\∀v,o.data≠.cell v):Inv X (pins++lW fp s.heap) Gf H s :=
 I.vF fun p hp=>(Gw.mp hp).elim (fun z=>I.pin p (GS _ z)) fun z=>by
  obtain⟨hb,e⟩:=yj z
  obtain⟨f0,f1,f2,_⟩:=hf p.1 hb
  obtain⟨o,e',d⟩:=ho p.1 hb
  rw [e] at e';cases e'
  exact⟨e,f0,f1,f2,d⟩
theorem Inv.jf {pins pl:List (Addr×Obj)}{Gf : St}{H:Hp}{s:Shared}(I:Inv X (pins++pl) Gf H s):Inv X pins Gf H s:=I.vF fun p hp=>I.pin p (GS _ (GV _ hp))
theorem cW {iter:Expr}{body:List Stmt}{wi:TI}{g:TG}{tb:TS}{pos:Pos}(hp:PassesOwn (model X.prog X.w) X.A X.env X.xe)(hc:X.calm=true)(hi:PI X tg iter wi)(hg:PG X tg g)(hb:fX X body tb)
  (hs:∀x,foldedSetIterable iter X.env x=pure x:=by intro _;rfl):PS X (.For tg iter body [] pos) (Fj wi g tb):=by
 intro pins s Gf H D I h
 refine wpAny_For (bB (hi pins s Gf H _ I h) fun v s1 h1=>bB h1 fun itv s2 h2=>?_) hs
 obtain⟨it,fp,tn,J,H2,e,I2,T,st2,f2,W,⟨m0,w0⟩,turn⟩:=h2
 subst e
 have stat:∀{H':Hp},(∀b∈fp,H' b=none)->∀b∈fp,je X pins H' b:=fun hn b hb=>⟨hn b hb,(f2 b hb).2⟩
 refine codeAny_forLoop_any (fun n s'=>∃i σ' H',Inv X pins σ' H' s'/\tn i s'.heap/\(∀b∈fp,H' b=none)/\W i n σ' H') ?_ m0 ⟨0,Gf,H2,I2,st2,fun b hb=>(f2 b hb).1,w0⟩
 rintro n s3 ⟨i,σ3,H3,I3,st3,fr3,w3⟩
 rcases turn i n σ3 H3 w3 with ⟨stop,qn⟩ | ⟨go,N,hN,step⟩
 ·refine Jk hp (bB (T.done X rfl rfl rfl hc i pins s3 σ3 H3 X.xe I3 (stat fr3) st3 stop) fun r s4 ⟨hr,I4⟩=>?_)
  subst hr
  exact Ju ⟨σ3,H3,I4,qn⟩
 ·refine Jk hp (bB (T.item X rfl rfl rfl hc i pins s3 σ3 H3 X.xe I3 (stat fr3) st3 go) fun r s4 ⟨u,hr,h4⟩=>?_)
  subst hr
  refine Jk hp (bB h4 fun _ s5 ⟨x,H5,I5,r5,y5,st5,fr5⟩=>?_)
  have I5':=I5.pinned (stat fr5) (T.obj _ _ st5)
  refine Jk hp (bB (hg _ s5 σ3 H5 x u _ I5' r5 (step x H5 y5)) fun _ s6 ⟨σ6,H6,I6,q6⟩=>?_)
  refine Jk hp (bB (hb _ s6 σ6 H6 _ I6 q6) fun f s7 q7=>?_)
  have again:∀{σ7:St} {H7:Hp},Inv X (pins++lW fp s5.heap) σ7 H7 s7->N σ7 H7->∃m,m<n/\∃i σ' H',Inv X pins σ' H' s7/\tn i s7.heap/\(∀b∈fp,H' b=none)/\W i m σ' H':=fun {σ7 H7} I7 n7=>by
   obtain⟨m',hm,w7⟩:=hN σ7 H7 n7
   refine⟨m',hm,i+1,σ7,H7,I7.jf,T.keep _ _ _ st5 fun b hb o e=>(I7.pin (b,o) (GS _ (GS _ (i6 hb e)))).1,fun b hb=>?_,w7⟩
   obtain⟨o,e,d⟩:=T.obj _ _ st5 b hb
   exact (I7.pin (b,o) (GS _ (GS _ (i6 hb e)))).2.1
  cases f with
  | next=>obtain⟨σ7,H7,I7,n7⟩:=q7;exact again I7 n7
  | cont=>obtain⟨σ7,H7,I7,n7⟩:=q7;exact again I7 n7
  | brk=>obtain⟨σ7,H7,I7,q7⟩:=q7;exact⟨σ7,H7,I7.jf,q7⟩
  | ret v=>obtain⟨x7,σ7,H7,I7,r7,q7⟩:=q7;exact⟨x7,σ7,H7,I7.jf,r7,q7⟩
end
theorem ig {K:Gh}{a:Addr}{xs:List V}{g:TG}{tb:TS}{D:Ends}{Gf : St}{H:Hp}(Pv:Nat->St->Hp->Prop)(h0:Pv 0 Gf H)(hl:∀i Gf H,i<=xs.length->Pv i Gf H->aO K H a xs)
  (hs:∀i x Gf H,xs[i]?=some x->Pv i Gf H->g x Gf H fun σ2 H2=>tb { D with nx:=Pv (i+1),ct:=Pv (i+1),bk:=D.nx } σ2 H2) (hd:∀Gf H,Pv xs.length Gf H->D.nx Gf H) :
  ∃W:Nat->Nat->St->Hp->Prop,(∃m,W 0 m Gf H)/\∀i m Gf H,W i m Gf H ->
   ((vH K a).stop i H/\D.nx Gf H)\/((vH K a).go i H/\∃N:St->Hp->Prop,(∀σ' H',N σ' H'->∃m',m' < m/\W (i+1) m' σ' H')/\∀x H',(vH K a).vG i H x H'->g x Gf H' fun σ2 H2=>tb { D with nx:=N,ct:=N,bk:=D.nx } σ2 H2):=by
 refine⟨fun i m Gf H=>m=xs.length-i/\i<=xs.length/\Pv i Gf H,⟨xs.length,by simp,GI _,h0⟩,?_⟩
 rintro i m Gf H ⟨rfl,hi,p⟩
 have q:=hl i Gf H hi p
 by_cases hlt:i<xs.length
 ·refine .inr ⟨⟨xs,xs[i],q,by simp [hlt]⟩,Pv (i+1),fun σ' H' p'=>⟨xs.length-(i+1),by omega,rfl,hlt,p'⟩,fun x H' y=>?_⟩
  obtain⟨e,y⟩:=y
  subst e
  exact hs i x Gf _ (y xs q) p
 ·have e:i=xs.length:=by omega
  subst e
  exact .inl ⟨⟨xs,q,Gj _⟩,hd Gf H p⟩
theorem fB {K:Gh}{a:Addr}{xs:List V}{g:TG}{tb:TS}{D:Ends}{Gf : St}{H:Hp}(Pv:Nat->St->Hp->Prop)(h0:Pv 0 Gf H)(hl:∀i Gf H,i<=xs.length->Pv i Gf H->av K H a xs)
  (hs:∀i x Gf H,xs[i]?=some x->Pv i Gf H->g x Gf H fun σ2 H2=>tb { D with nx:=Pv (i+1),ct:=Pv (i+1),bk:=D.nx } σ2 H2) (hd:∀Gf H,Pv xs.length Gf H->D.nx Gf H) :
  ∃W:Nat->Nat->St->Hp->Prop,(∃m,W 0 m Gf H)/\∀i m Gf H,W i m Gf H ->
   ((vI K a).stop i H/\D.nx Gf H)\/((vI K a).go i H/\∃N:St->Hp->Prop,(∀σ' H',N σ' H'->∃m',m' < m/\W (i+1) m' σ' H')/\∀x H',(vI K a).vG i H x H'->g x Gf H' fun σ2 H2=>tb { D with nx:=N,ct:=N,bk:=D.nx } σ2 H2):=by
 refine⟨fun i m Gf H=>m=xs.length-i/\i<=xs.length/\Pv i Gf H,⟨xs.length,by simp,GI _,h0⟩,?_⟩
 rintro i m Gf H ⟨rfl,hi,p⟩
 have q:=hl i Gf H hi p
 by_cases hlt:i<xs.length
 ·refine .inr ⟨⟨xs,xs[i],q,by simp [hlt]⟩,Pv (i+1),fun σ' H' p'=>⟨xs.length-(i+1),by omega,rfl,hlt,p'⟩,fun x H' y=>?_⟩
  obtain⟨e,y⟩:=y
  subst e
  exact hs i x Gf _ (y xs q) p
 ·have e:i=xs.length:=by omega
  subst e
  exact .inl ⟨⟨xs,q,Gj _⟩,hd Gf H p⟩
theorem iK {lo:Int}{n:Nat}{g:TG}{tb:TS}{D:Ends}{Gf : St}{H:Hp}(Pv:Nat->St->Hp->Prop)(h0:Pv 0 Gf H)
  (hs:∀i Gf H,i<n->Pv i Gf H->g (.int (lo+i)) Gf H fun σ2 H2=>tb { D with nx:=Pv (i+1),ct:=Pv (i+1),bk:=D.nx } σ2 H2) (hd:∀Gf H,Pv n Gf H->D.nx Gf H) :
  ∃W:Nat->Nat->St->Hp->Prop,(∃m,W 0 m Gf H)/\∀i m Gf H,W i m Gf H ->
   ((tR lo n).stop i H/\D.nx Gf H)\/((tR lo n).go i H/\∃N:St->Hp->Prop,(∀σ' H',N σ' H'->∃m',m' < m/\W (i+1) m' σ' H')/\∀x H',(tR lo n).vG i H x H'->g x Gf H' fun σ2 H2=>tb { D with nx:=N,ct:=N,bk:=D.nx } σ2 H2):=by
 refine⟨fun i m Gf H=>m=n-i/\i<=n/\Pv i Gf H,⟨n,by simp,GI _,h0⟩,?_⟩
 rintro i m Gf H ⟨rfl,hi,p⟩
 by_cases hlt:i<n
 ·refine .inr ⟨hlt,Pv (i+1),fun σ' H' p'=>⟨n-(i+1),by omega,rfl,hlt,p'⟩,fun x H' y=>?_⟩
  obtain⟨e,y⟩:=y
  subst e y
  exact hs i Gf _ hlt p
 ·have e:i=n:=by omega
  subst e
  exact .inl ⟨Gj _,hd Gf H p⟩
abbrev R2:=V->V->Hp->VK->Prop
def eG (X:Cx)(f:Value->Value->Sem Value)(r:R2):Prop :=
 ∀(pins:List (Addr×Obj)) (s:Shared) (Gf : St) (H:Hp) (x y:V) (v u:Value) (Q:VK),Inv X pins Gf H s->RelV x v->RelV y u->r x y H Q ->
  wpAny (model X.prog X.w) X.A (f v u) (EP X pins Gf Q) X.xe s
def Df (X:Cx)(f:Value->Sem Value)(r:V->Hp->VK->Prop):Prop :=
 ∀(pins:List (Addr×Obj)) (s:Shared) (Gf : St) (H:Hp) (x:V) (v:Value) (Q:VK),Inv X pins Gf H s->RelV x v->r x H Q ->
  wpAny (model X.prog X.w) X.A (f v) (EP X pins Gf Q) X.xe s
def dW (X:Cx)(f:Value)(r:List V->Hp->VK->Prop):Prop :=
 ∀(pins:List (Addr×Obj)) (s:Shared) (Gf : St) (H:Hp) (xs:List V) (us:List Value) (Q:VK),Inv X pins Gf H s->Vals xs us->r xs H Q ->
  wpAny (model X.prog X.w) X.A (call f us) (EP X pins Gf Q) X.xe s
def Fl (X:Cx)(r:V->Hp->(Bool->Hp->Prop)->Prop):Prop :=
 ∀(pins:List (Addr×Obj)) (s:Shared) (Gf : St) (H:Hp) (x:V) (v:Value) (Q:Bool->Hp->Prop),Inv X pins Gf H s->RelV x v->r x H Q ->
  wpAny (model X.prog X.w) X.A (truthy v) (TP X pins Gf Q) X.xe s
def yk (r:R2)(ta tb:TE):TE:=fun Gf H Q=>ta Gf H fun x H1=>tb Gf H1 fun y H2=>r x y H2 Q
def FN (r:V->Hp->VK->Prop)(ta:TE):TE:=fun Gf H Q=>ta Gf H fun x H1=>r x H1 Q
inductive rI (C:Int->Int->Prop) (g:Int->Int->V) (x:V) (y:V) (H:Hp) (Q:VK):Prop
 | mk (i j:_) (_:x=.int i) (_:y=.int j) (_:C i j) (_:Q (g i j) H)
inductive rR (g:Int->Int->V) (x:V) (y:V) (H:Hp) (Q:VK):Prop
 | mk (i j:_) (_:x=.int i) (_:y=.int j) (_:Q (g i j) H)
inductive rU (g:Int->V) (x:V) (H:Hp) (Q:VK):Prop
 | mk (i:_) (_:x=.int i) (_:Q (g i) H)
section
variable {X:Cx}{a b c:Expr}{ta tb tc:TE}{pos:Pos}
theorem zW (ha:PE X a ta)(hb:PE X b tb){pins:List (Addr×Obj)}{s:Shared}{Gf : St}{H:Hp}{R:V->V->Hp->Prop}(I:Inv X pins Gf H s)
  (h:ta Gf H fun x H1=>tb Gf H1 fun y H2=>R x y H2) {Q:Value->Shared->Prop} {f:Value->Value->Sem Value}
  (hf:∀v u s2 x y H2,Inv X pins Gf H2 s2->RelV x v->RelV y u->R x y H2->wpAny (model X.prog X.w) X.A (f v u) Q X.xe s2) :
  wpAny (model X.prog X.w) X.A (eval a X.env) (fun v s₁=>wpAny (model X.prog X.w) X.A (eval b X.env) (fun u s₂=>wpAny (model X.prog X.w) X.A (f v u) Q X.xe s₂) X.xe s₁) X.xe s:=by
 refine bB (ha pins s Gf H _ I h) fun v s1 ⟨x,H1,I1,r1,q1⟩=>?_
 refine bB (hb pins s1 Gf H1 _ I1 q1) fun u s2 ⟨y,H2,I2,r2,q2⟩=>?_
 exact hf v u s2 x y H2 I2 r1 r2 q2
theorem aY {op:Operator}{r:R2}(ho:eG X (binaryOp op) r)(ha:PE X a ta)(hb:PE X b tb):PE X (.BinOp a op b pos) (yk r ta tb):=by
 intro pins s Gf H Q I h
 exact wpAny_BinOp (zW ha hb I h fun v u s2 x y H2 I2 rx ry q=>ho pins s2 Gf H2 x y v u Q I2 rx ry q)
theorem Et {op:UnaryOp}{r:V->Hp->VK->Prop}(ho:Df X (unaryOp op) r)(ha:PE X a ta):PE X (.UnaryOp op a pos) (FN r ta):=by
 intro pins s Gf H Q I h
 exact UnaryOp_ (bB (ha pins s Gf H _ I h) fun v s1 ⟨x,H1,I1,r1,q1⟩=>ho pins s1 Gf H1 x v Q I1 r1 q1)
theorem vJ {f:Value->Value->Sem Value}{C:Int->Int->Prop}{g:Int->Int->Int}
  (rule:∀(i j:Int) (t u:Tok) (s:Shared) (Q:Value->Shared->Prop) (E:Value->Shared->Prop),C i j->Q (.int (g i j) s.toks) { s with toks:=s.toks+1 }->wpAny (model X.prog X.w) X.A (f (.int i t) (.int j u)) Q E s) :
  eG X f (rI C fun i j=>.int (g i j)):=by
 intro pins s Gf H x y v u Q I rx ry h
 obtain⟨i,j,rfl,rfl,hc,q⟩:=h
 obtain⟨t,rfl⟩:=rx
 obtain⟨t',rfl⟩:=ry
 exact rule i j t t' s _ _ hc ⟨.int (g i j),H,I.tok _,⟨_,rfl⟩,q⟩
theorem Dg {f:Value->Value->Sem Value}{g:Int->Int->Int}
  (rule:∀(i j:Int) (t u:Tok) (s:Shared) (Q:Value->Shared->Prop) (E:Value->Shared->Prop),Q (.int (g i j) s.toks) { s with toks:=s.toks+1 }->wpAny (model X.prog X.w) X.A (f (.int i t) (.int j u)) Q E s) :
  eG X f (rR fun i j=>.int (g i j)):=by
 intro pins s Gf H x y v u Q I rx ry h
 obtain⟨i,j,rfl,rfl,q⟩:=h
 obtain⟨t,rfl⟩:=rx
 obtain⟨t',rfl⟩:=ry
 exact rule i j t t' s _ _ ⟨.int (g i j),H,I.tok _,⟨_,rfl⟩,q⟩
theorem wZ {f:Value->Value->Sem Value}{g:Int->Int->Bool}
  (rule:∀(i j:Int) (t u:Tok) (s:Shared) (Q:Value->Shared->Prop) (E:Value->Shared->Prop),Q (.bool (g i j)) s->wpAny (model X.prog X.w) X.A (f (.int i t) (.int j u)) Q E s) :
  eG X f (rR fun i j=>.bl (g i j)):=by
 intro pins s Gf H x y v u Q I rx ry h
 obtain⟨i,j,rfl,rfl,q⟩:=h
 obtain⟨t,rfl⟩:=rx
 obtain⟨t',rfl⟩:=ry
 exact rule i j t t' s _ _ ⟨.bl (g i j),H,I,rfl,q⟩
def Fm (i j:Int):Prop:=0<j/\j<1073741824
def Fn (i j:Int):Prop:=0<=j/\j<=1000000/\i.natAbs<2 ^ 64
def zX (i j:Int):Prop:=(-(2 ^ 64)<i/\i<2 ^ 64)\/(-(2 ^ 64)<j/\j<2 ^ 64)
theorem zX.ok {i j:Int}(h:zX i j):IntMulOk i j:=by
 rcases h with ⟨h1,h2⟩ | ⟨h1,h2⟩
 ·exact .of_left (intBits_le_64 h1 h2)
 ·exact .of_right (intBits_le_64 h1 h2)
theorem bR:eG X (binaryOp .Add) (rR fun i j=>.int (i+j)):=Dg fun _ _ _ _ _ _ _ q=>add_int q
theorem fI:eG X (binaryOp .Sub) (rR fun i j=>.int (i-j)):=Dg fun _ _ _ _ _ _ _ q=>sub_int q
theorem gg:eG X (binaryOp .Mult) (rI zX fun i j=>.int (i*j)):=vJ fun _ _ _ _ _ _ _ hc q=>mul_int q hc.ok
theorem vK:eG X (binaryOp .FloorDiv) (rI Fm fun i j=>.int (i / j)):=vJ fun i j _ _ _ _ _ hc q=>by
 have h1:(0:Int)<j:=hc.1
 have h2:j<1073741824:=hc.2
 exact floordiv_int (by omega) (by rw [Int.fdiv_eq_ediv_of_nonneg i (by omega)];exact q) (.inl (PyProof.noPylong_small (by omega)))
theorem jg:eG X (binaryOp .Mod) (rI (fun _ j=>0<j) fun i j=>.int (i % j)):=vJ fun i j _ _ _ _ _ hc q=>by
 have h1:(0:Int)<j:=hc
 exact mod_int' (by omega) (by rw [Int.fmod_eq_emod_of_nonneg i (by omega)];exact q)
theorem pJ:eG X (binaryOp .Pow) (rI Fn fun i j=>.int (i ^ j.toNat)):=vJ fun _ _ _ _ _ _ _ hc q=>pow_int_small hc.1 hc.2.1 hc.2.2 q
theorem FO {f:Value->Sem Value}{g:Int->Int}
  (rule:∀(i:Int) (t:Tok) (s:Shared) (Q:Value->Shared->Prop) (E:Value->Shared->Prop),Q (.int (g i) s.toks) { s with toks:=s.toks+1 }->wpAny (model X.prog X.w) X.A (f (.int i t)) Q E s) :
  Df X f (rU fun i=>.int (g i)):=by
 intro pins s Gf H x v Q I rx h
 obtain⟨i,rfl,q⟩:=h
 obtain⟨t,rfl⟩:=rx
 exact rule i t s _ _ ⟨.int (g i),H,I.tok _,⟨_,rfl⟩,q⟩
theorem Dh:Df X (unaryOp .USub) (rU fun i=>.int (-i)):=FO fun _ _ _ _ _ q=>neg_int q
end
def zY:V->V->Bool
 | .aZ,.aZ=>true | .aZ,.int _=>true | .int _,.aZ=>true | .aZ,.bl _=>true | .bl _,.aZ=>true | .aZ,.str _=>true | .str _,.aZ=>true
 | .int _,.int _=>true | .bl _,.bl _=>true | .str _,.str _=>true | .jb _,.jb _=>true
 | .int _,.str _=>true | .str _,.int _=>true | .bl _,.str _=>true | .str _,.bl _=>true
 | _,_=>false
def FP:R2:=fun x y H Q=>zY x y=true/\Q (.bl (decide (x=y))) H
def FQ:R2:=fun x y H Q=>zY x y=true/\Q (.bl (!decide (x=y))) H
theorem vL {i j:Int}:decide (V.int i=V.int j)=(i == j):=by
 rw [Ie]
 simp
theorem yl {i j:Bool}:decide (V.bl i=V.bl j)=(i == j):=by
 rw [Ie]
 simp
theorem vM {i j:Str}:decide (V.str i=V.str j)=(i == j):=by
 rw [Ie]
 simp
theorem vP {i j:Array UInt8}:decide (V.jb i=V.jb j)=(i.toList == j.toList):=by
 rw [Ie]
 cases i
 cases j
 simp
section
variable {X:Cx}{a b c:Expr}{ta tb tc:TE}{pos:Pos}
theorem b6 {pins:List (Addr×Obj)}{Gf : St}{H:Hp}{s:Shared}{Q:VK}{k k':Bool}(I:Inv X pins Gf H s)(q:Q (.bl k) H)(e:k=k'):EP X pins Gf Q (.bool k') s:=by
 subst e
 exact⟨.bl k,H,I,rfl,q⟩
theorem cx:eG X (compareOp .Eq) FP:=by
 intro pins s Gf H x y v u Q I rx ry h
 obtain⟨hs,q⟩:=h
 cases x with
 | aZ =>
  cases rx
  cases y with
  | aZ=>cases ry;exact PySem.EqNone.eq_none_none (b6 I q (by simp))
  | bl j=>cases ry;exact PySem.EqNone.eq_none_bool (b6 I q (by simp))
  | int j=>obtain⟨t',rfl⟩:=ry;exact PySem.EqNone.eq_none_int (b6 I q (by simp))
  | str j=>obtain⟨t',rfl⟩:=ry;exact PySem.EqNone.eq_none_str (b6 I q (by simp))
  | _=>exact absurd (show false=true from hs) GJ
 | bl i =>
  cases rx
  cases y with
  | aZ=>cases ry;exact PySem.EqNone.eq_bool_none (b6 I q (by simp))
  | bl j=>cases ry;exact eq_bool (b6 I q yl)
  | str j=>obtain⟨t',rfl⟩:=ry;exact PySem.EqMixed.eq_bool_str (b6 I q (by simp))
  | _=>exact absurd (show false=true from hs) GJ
 | int i =>
  obtain⟨t,rfl⟩:=rx
  cases y with
  | aZ=>cases ry;exact PySem.EqNone.eq_int_none (b6 I q (by simp))
  | int j=>obtain⟨t',rfl⟩:=ry;exact eq_int (b6 I q vL)
  | str j=>obtain⟨t',rfl⟩:=ry;exact PySem.EqMixed.eq_int_str (b6 I q (by simp))
  | _=>exact absurd (show false=true from hs) GJ
 | str i =>
  obtain⟨t,rfl⟩:=rx
  cases y with
  | aZ=>cases ry;exact PySem.EqNone.eq_str_none (b6 I q (by simp))
  | bl j=>cases ry;exact PySem.EqMixed.eq_str_bool (b6 I q (by simp))
  | int j=>obtain⟨t',rfl⟩:=ry;exact PySem.EqMixed.eq_str_int (b6 I q (by simp))
  | str j=>obtain⟨t',rfl⟩:=ry;exact eq_str (b6 I q vM)
  | _=>exact absurd (show false=true from hs) GJ
 | jb i =>
  obtain⟨t,rfl⟩:=rx
  cases y with
  | jb j=>obtain⟨t',rfl⟩:=ry;exact PySem.W.eq_bytes (b6 I q vP)
  | _=>exact absurd (show false=true from hs) GJ
 | _=>cases y <;> exact absurd (show false=true from hs) GJ
theorem w6:eG X (compareOp .NotEq) FQ:=by
 intro pins s Gf H x y v u Q I rx ry h
 obtain⟨hs,q⟩:=h
 cases x with
 | aZ =>
  cases rx
  cases y with
  | aZ=>cases ry;exact PySem.EqNone.ne_none_none (b6 I q (by simp))
  | bl j=>cases ry;exact PySem.EqNone.ne_none_bool (b6 I q (by simp))
  | int j=>obtain⟨t',rfl⟩:=ry;exact PySem.EqNone.ne_none_int (b6 I q (by simp))
  | str j=>obtain⟨t',rfl⟩:=ry;exact PySem.EqNone.ne_none_str (b6 I q (by simp))
  | _=>exact absurd (show false=true from hs) GJ
 | bl i =>
  cases rx
  cases y with
  | aZ=>cases ry;exact PySem.EqNone.ne_bool_none (b6 I q (by simp))
  | bl j=>cases ry;exact ne_bool (b6 I q (congrArg not yl))
  | str j=>obtain⟨t',rfl⟩:=ry;exact PySem.EqMixed.ne_bool_str (b6 I q (by simp))
  | _=>exact absurd (show false=true from hs) GJ
 | int i =>
  obtain⟨t,rfl⟩:=rx
  cases y with
  | aZ=>cases ry;exact PySem.EqNone.ne_int_none (b6 I q (by simp))
  | int j=>obtain⟨t',rfl⟩:=ry;exact ne_int (b6 I q (congrArg not vL))
  | str j=>obtain⟨t',rfl⟩:=ry;exact PySem.EqMixed.ne_int_str (b6 I q (by simp))
  | _=>exact absurd (show false=true from hs) GJ
 | str i =>
  obtain⟨t,rfl⟩:=rx
  cases y with
  | aZ=>cases ry;exact PySem.EqNone.ne_str_none (b6 I q (by simp))
  | bl j=>cases ry;exact PySem.EqMixed.ne_str_bool (b6 I q (by simp))
  | int j=>obtain⟨t',rfl⟩:=ry;exact PySem.EqMixed.ne_str_int (b6 I q (by simp))
  | str j=>obtain⟨t',rfl⟩:=ry;exact ne_str (b6 I q (congrArg not vM))
  | _=>exact absurd (show false=true from hs) GJ
 | jb i =>
  obtain⟨t,rfl⟩:=rx
  cases y with
  | jb j=>obtain⟨t',rfl⟩:=ry;exact PySem.W.ne_bytes (b6 I q (congrArg not vP))
  | _=>exact absurd (show false=true from hs) GJ
 | _=>cases y <;> exact absurd (show false=true from hs) GJ
theorem gy:eG X (compareOp .Lt) (rR fun i j=>.bl (decide (i<j))):=wZ fun _ _ _ _ _ _ _ q=>lt_int q
theorem tF:eG X (compareOp .LtE) (rR fun i j=>.bl (decide (i<=j))):=wZ fun _ _ _ _ _ _ _ q=>le_int q
theorem iD:eG X (compareOp .Gt) (rR fun i j=>.bl (decide (j<i))):=wZ fun _ _ _ _ _ _ _ q=>gt_int q
theorem w9:eG X (compareOp .GtE) (rR fun i j=>.bl (decide (j<=i))):=wZ fun _ _ _ _ _ _ _ q=>ge_int q
theorem aP (b:Expr){op:CmpOp}(h:op≠.In:=by decide)(h2:op≠.NotIn:=by decide):behindInMarks op b=false:=by
 have e1:(op == CmpOp.In)=false:=by cases op <;> first | rfl | exact absurd rfl h
 have e2:(op == CmpOp.NotIn)=false:=by cases op <;> first | rfl | exact absurd rfl h2
 cases b <;> simp [behindInMarks,e1,e2]
theorem gG {op:CmpOp}{r:R2}(ho:eG X (compareOp op) r)(ha:PE X a ta)(hb:PE X b tb)(hm:behindInMarks op b=false):PE X (.Compare a [op] [b] pos) (yk r ta tb):=by
 intro pins s Gf H Q I h
 exact wpAny_Compare1 (zW ha hb I h fun v u s2 x y H2 I2 rx ry q=>ho pins s2 Gf H2 x y v u Q I2 rx ry q) hm
inductive zZ (Q:(Bool->Hp->Prop)) (x:V) (H':Hp):Prop
 | mk (k:_) (_:x=.bl k) (_:Q k H')
def Eu (t:TE):TT:=fun Gf H Q=>t Gf H fun x H'=>zZ Q x H'
theorem aH {op:CmpOp}{r:R2}(ho:eG X (compareOp op) r)(ha:PE X a ta)(hb:PE X b tb)(hm:behindInMarks op b=false):PT X (.Compare a [op] [b] pos) (Eu (yk r ta tb)):=by
 intro pins s Gf H Q I h
 refine wpAny_isTrue_Compare1 (bB (ha pins s Gf H _ I h) fun v s1 ⟨x,H1,I1,r1,q1⟩=>bB (hb pins s1 Gf H1 _ I1 q1) fun u s2 ⟨y,H2,I2,r2,q2⟩ =>
  bB (ho pins s2 Gf H2 x y v u _ I2 r1 r2 q2) fun c s3 ⟨z,H3,I3,r3,k,e,q3⟩=>?_) hm
 subst e
 cases r3
 exact Jm ⟨H3,I3,q3⟩
def Di (K:Gh)(x:V)(H:Hp)(k:Bool):Prop :=
 match x with
 | .aZ=>k=false
 | .bl b=>k=b
 | .int i=>k=(i != 0)
 | .str y=>y.length<=sizeLine/\k=((y.length:Int) != 0)
 | .jb y=>y.size<=sizeLine/\k=((y.size:Int) != 0)
 | .ref p=>(∃xs,aO K H p xs/\k = !xs.isEmpty)\/(∃xs,av K H p xs/\k = !xs.isEmpty)\/∃kvs,H p=some (.dK kvs)/\k = !kvs.isEmpty
 | _=>False
theorem xa {κ : Type}{kvs:List (κ×V)}{vs:List (κ×Value)}(r:KV kvs vs):(!vs.isEmpty) = !kvs.isEmpty:=by
 cases r <;> rfl
theorem pK {xs:List V}{its:List Value}(r:Vals xs its):(!its.toArray.isEmpty) = !xs.isEmpty:=by
 cases r <;> simp
theorem iL:(sizeLine:Nat)<2 ^ 63:=by rw [sizeLine_eq];decide
theorem Dj:Fl X (fun x H Q=>∃k,Di X.K x H k/\Q k H):=by
 intro pins s Gf H x v Q I rx h
 obtain⟨k,e,q⟩:=h
 have hl:=iL
 have hs:sizeLine=16777216:=sizeLine_eq
 cases x with
 | aZ =>
  cases rx
  have e':k=false:=e
  subst e'
  exact truthy_none ⟨H,I,q⟩
 | bl b =>
  cases rx
  have e':k=b:=e
  subst e'
  exact Jm ⟨H,I,q⟩
 | int i =>
  obtain⟨t,rfl⟩:=rx
  have e':k=(i != 0):=e
  subst e'
  exact PySem.P.truthy_int ⟨H,I,q⟩
 | str y =>
  obtain⟨t,rfl⟩:=rx
  obtain⟨hy,e'⟩:y.length<=sizeLine/\k=((y.length:Int) != 0):=e
  subst e'
  exact PySem.P.truthy_str (by omega) ⟨H,I.tok _,q⟩
 | jb y =>
  obtain⟨t,rfl⟩:=rx
  obtain⟨hy,e'⟩:y.size<=sizeLine/\k=((y.size:Int) != 0):=e
  subst e'
  exact PySem.W.truthy_bytes (by omega) ⟨H,I.tok _,q⟩
 | ref p =>
  cases rx
  have e':(∃xs,aO X.K H p xs/\k = !xs.isEmpty)\/(∃xs,av X.K H p xs/\k = !xs.isEmpty)\/∃kvs,H p=some (.dK kvs)/\k = !kvs.isEmpty:=e
  rcases e' with ⟨xs,hx,e'⟩ | ⟨xs,hx,e'⟩ | ⟨kvs,hx,e'⟩
  ·subst e'
   obtain⟨its,r,pl,hz⟩:=I.list hx
   have hlen:=r.length
   exact wpAny_truthy_list pl.isList (by simp only [GC];omega) ⟨H,I.tok _,by rw [pK r];exact q⟩
  ·subst e'
   obtain⟨its,r,pl,hz⟩:=I.tuple hx
   have hlen:=r.length
   exact truthy_tuple pl (by simp only [GC];omega) ⟨H,I.tok _,by rw [pK r];exact q⟩
  ·subst e'
   obtain⟨hz,hS,vs,r,m⟩:kvs.length<=sizeLine/\(p == sysModules)=false/\∃vs,KV kvs vs/\s.heap.DictOf (aQ X.prog X.w) p vs:=I.aL p _ hx
   have hlen:kvs.length=vs.length:=Paired.length r
   exact wpAny_truthy_dict hS m (by omega) ⟨H,I.tok _,by rw [xa r];exact q⟩
 | _=>exact (show False from e).elim
theorem z5 (ha:PE X a ta)(he:∀whole,isTrue a X.env whole=(do let v <-whole;standAt a.pos;holding [v] (truthy v))) :
  PT X a (fun Gf H Q=>ta Gf H fun x H'=>∃k,Di X.K x H' k/\Q k H'):=by
 intro pins s Gf H Q I h
 exact isTrue_plain (bB (ha pins s Gf H _ I h) fun v s1 ⟨x,H1,I1,r1,q1⟩=>Dj pins s1 Gf H1 x v Q I1 r1 q1) (he _)
theorem vals1 {x:V}{us:List Value}(r:Vals [x] us):∃u,us=[u]/\RelV x u:=by
 cases r with
 | cons r1 r2=>cases r2;exact⟨_,rfl,r1⟩
theorem vals2 {x y:V}{us:List Value}(r:Vals [x,y] us):∃u w',us=[u,w']/\RelV x u/\RelV y w':=by
 cases r with
 | cons r1 r2 =>
  cases r2 with
  | cons r3 r4=>cases r4;exact⟨_,_,rfl,r1,r3⟩
theorem ym (hc:X.calm=true):dW X (.builtin "max") (fun xs H Q=>∃i j,xs=[.int i,.int j]/\Q (.int (if j > i then j else i)) H):=by
 intro pins s Gf H xs us Q I r h
 obtain⟨i,j,rfl,q⟩:=h
 obtain⟨u,w',rfl,⟨t,rfl⟩,⟨t',rfl⟩⟩:=vals2 r
 refine max_two_ints (I.ok.hd hc) fun h' tk k=>⟨_,H,I.kept k,?_,q⟩
 by_cases hj:j > i
 ·rw [if_pos hj,if_pos hj];exact⟨_,rfl⟩
 ·rw [if_neg hj,if_neg hj];exact⟨_,rfl⟩
theorem yn (hc:X.calm=true):dW X (.builtin "min") (fun xs H Q=>∃i j,xs=[.int i,.int j]/\Q (.int (if j<i then j else i)) H):=by
 intro pins s Gf H xs us Q I r h
 obtain⟨i,j,rfl,q⟩:=h
 obtain⟨u,w',rfl,⟨t,rfl⟩,⟨t',rfl⟩⟩:=vals2 r
 refine min_two_ints (I.ok.hd hc) fun h' tk k=>⟨_,H,I.kept k,?_,q⟩
 by_cases hj:j<i
 ·rw [if_pos hj,if_pos hj];exact⟨_,rfl⟩
 ·rw [if_neg hj,if_neg hj];exact⟨_,rfl⟩
theorem jF:dW X (.type "int") (fun xs H Q=>(∃i,xs=[.int i]/\Q (.int i) H)\/∃k,xs=[.bl k]/\Q (.int (if k then 1 else 0)) H):=by
 intro pins s Gf H xs us Q I r h
 rcases h with ⟨i,rfl,q⟩ | ⟨k,rfl,q⟩
 ·obtain⟨u,rfl,t,rfl⟩:=vals1 r
  exact call_int_int ⟨.int i,H,I,⟨_,rfl⟩,q⟩
 ·obtain⟨u,rfl,r1⟩:=vals1 r
  cases r1
  exact call_int_bool ⟨.int (if k then 1 else 0),H,I.tok _,⟨_,rfl⟩,q⟩
end
structure oC (h:Heap) (x dx C:Addr) (mA:Str->Option Value):Prop where
 obj:h.get? x=some (Ht C dx)
 ns:h.Ns1 dx mA
 ne:dx≠x
theorem yo {h:Heap}{dx:Addr}{mA:Str->Option Value}(n:h.Ns1 dx mA):∃od,h.get? dx=some od/\∀name,Ig name od=some (mA name):=by
 obtain⟨o,es,ep,ho,hd,hk,_,hm⟩:=n
 refine⟨o,ho,fun name=>?_⟩
 have e:=hm name
 unfold nsFind findBy at e
 rw [<-Array.find?_toList] at e
 unfold Ig
 rw [hd]
 dsimp only
 split
 ·rename_i y q
  rw [q] at e
  exact congrArg some e
 ·rename_i q
  rw [q] at e
  have a:es.toList.any (·.refKey)=false:=by
   rw [List.any_eq_false]
   intro y hy
   obtain⟨z,t,hkey⟩:=hk y (Array.mem_toList_iff.mp hy)
   simp [DictEntry.refKey,hkey]
  have a':¬es.toList.any (·.refKey)=true:=by rw [a];exact GJ
  rw [if_neg a']
  exact congrArg some e
theorem oC.look {h:Heap}{x dx C:Addr}{mA:Str->Option Value}(I:oC h x dx C mA):∃od,PySem.W.InstAt h x (Ht C dx) C (some od)/\∀name,Ig name od=some (mA name) :=
 let ⟨od,ho,hl⟩:=yo I.ns
 ⟨od,⟨I.obj,rfl,rfl,ho⟩,hl⟩
section
variable {prog:Program}{w:World}{A:Around}{E:Value->Shared->Prop}{s:Shared}{K:Gh}{x dx C f:Addr}{mA:Str->Option Value}{name:Str}{v:Value}
theorem get_map {expr:Bool}{Q:Value->Shared->Prop}(X:K.In s.heap)(I:oC s.heap x dx C mA)(hg:HP K C name=true)(hh:Ih K C=true)
  (ha:GU K (.ref C) name=some none) (hv:mA name=some v) (hv':PySem.W.handedIn v=true) (h:Q v { s with toks:=s.toks+1 }) :
  wpAny (model prog w) A (getAttr (.ref x) name expr) Q E s:=by
 obtain⟨od,J,hl⟩:=I.look
 exact PySem.W.get_value X J (IK hg).1 (PySem.W.findObj_own hh ha rfl (by rw [hl,hv])) hv' h
theorem z6 {pl:Sem Bool}{Q:Value×List Value->Shared->Prop}(X:K.In s.heap)(I:oC s.heap x dx C mA)(hg:HP K C name=true)
  (hf:GU K (.ref C) name=some (some (.ref f))) (ht:HQ K (.ref f)=true) (hv:mA name=none) (h:Q (.ref f,[.ref x]) s) :
  wpAny (model prog w) A (getMethod (.ref x) name pl) Q E s:=by
 obtain⟨od,J,hl⟩:=I.look
 exact PySem.W.method_fn X J (IK hg).1 (IK hg).2 hf (beq_iff_eq.mp ht) (by show (Ig name od).map (·.isSome)=some false;rw [hl,hv];rfl) h
theorem BR {ns:List Str}{Q:Unit->Shared->Prop}(X:K.In s.heap)(I:oC s.heap x dx C mA)
  (hs:GU K (.ref C) "__setattr__" = some (some (.builtin "object.__setattr__"))) (hp:IL K C=true) (ht:PySem.W.takerIn K C name=some none) (hh:Ih K C=true)
  (hw:PySem.Within mA ns) (hsz:ns.length<=sizeLine)
  (h:∀h',oC h' x dx C (fun y=>if y=name then some v else mA y)->GW dx s.heap h'->Q () { s with heap:=h',toks:=s.toks+2 }) :
  wpAny (model prog w) A (setAttr (.ref x) name v) Q E s:=by
 obtain⟨od,J,hl⟩:=I.look
 refine PySem.W.set_plain X J hs (PySem.W.osa_open (s:={ s with toks:=s.toks+1 }) (r:=none) X J hp ht fun b=>?_)
 obtain⟨cd,hc,hd'⟩:=PySem.W.any_some hh
 have hx:s.heap.get? x=some ⟨.ref C,some dx,.plain,#[]⟩:=I.obj
 refine IW (IX (IW (IW (wpAny_loadPart hx (IW (PySem.W.Looks.here (s:={ s with toks:=s.toks+1 }) (PySem.W.looks_clsIn X hc) ?_))))))
 rw [hd']
 refine IX (a:=some dx) (IW (IX (IW ?_)))
 refine wpAny_nsSet1 (s:={ s with toks:=s.toks+1 }) I.ns fun h' hn2 hs2=>?_
 obtain⟨oD,esD,epD,hoD,hdD,hcD⟩:=hn2.count (PySem.Within.cons name v hw)
 refine IW (wpAny_lookBehind hoD (by rw [hdD];exact pastItsLine_dict (Gr hcD (by rw [G0];omega))) ?_)
 exact IX (h _ ⟨(hs2.2 _ (Ne.symm I.ne)).trans I.obj,hn2,I.ne⟩ hs2)
theorem z7 {R:Result->Shared->Prop}{vs:List Value}{kw:List (Str×Value)}(X:K.In s.heap)(hm:Ii K C=true)
  (hi:GU K (.ref C) "__init__" = some (some (.ref f))) (hf:PySem.W.typeIn K (.ref f)=some (.type "function"))
  (h:codeAny (model prog w) (A.under (.builtin "type.__call__" ⟨.ref C::vs,kw⟩)) (.call (.ref f) ⟨.ref (s.heap.objs.size+1)::vs,kw⟩) (PySem.W.InitBack (s.heap.objs.size+1) R)
   { s with heap:=(s.heap.push Hl).push (Ht C s.heap.objs.size) }) :
  codeAny (model prog w) A (.call (.ref C) ⟨vs,kw⟩) R s:=by
 obtain⟨hh,g,d,t,os⟩:=s
 exact PySem.W.make_core (PySem.W.makes_of X hm) (PySem.W.looks_findIn X hi) (fun self=>PySem.W.bind_fn X self hf) (.inl rfl) h
end
def eI (f:Str)(v:V):List (Str×V)->List (Str×V)
 | []=>[(f,v)]
 | (g,x)::r=>if g=f then (g,v)::r else (g,x)::eI f v r
theorem nU (f g:Str)(v:V):∀fs:List (Str×V),(eI f v fs).lookup g=if g=f then some v else fs.lookup g
 | []=>by
  show Hc g [(f,v)]=_
  by_cases h:g=f
  ·have hb:(g == f)=true:=beq_iff_eq.mpr h
   simp only [Hc,hb,if_pos h]
  ·have hb:(g == f)=false:=beq_eq_false_iff_ne.mpr h
   simp only [Hc,hb,if_neg h]
 | (k,x)::r=>by
  have ih:=nU f g v r
  rw [show eI f v ((k,x)::r)=(if k=f then (k,v)::r else (k,x)::eI f v r) from rfl]
  by_cases hk:k=f
  ·rw [if_pos hk]
   by_cases h:g=k
   ·have hb:(g == k)=true:=beq_iff_eq.mpr h
    simp only [Hc,hb,if_pos (h.trans hk)]
   ·have hb:(g == k)=false:=beq_eq_false_iff_ne.mpr h
    simp only [Hc,hb,if_neg (fun e:g=f=>h (e.trans hk.symm))]
  ·rw [if_neg hk]
   by_cases h:g=k
   ·have hb:(g == k)=true:=beq_iff_eq.mpr h
    simp only [Hc,hb,if_neg (fun e:g=f=>hk (h.symm.trans e))]
   ·have hb:(g == k)=false:=beq_eq_false_iff_ne.mpr h
    simp only [Hc,hb]
    exact ih
theorem lX (f:Str)(v:V):∀fs:List (Str×V),f∈(eI f v fs).map (·.1)/\∀g,g∈fs.map (·.1)->g∈(eI f v fs).map (·.1)
 | []=>⟨by simp [eI],fun g h=>by simp at h⟩
 | (k,x)::r=>by
  obtain⟨i1,i2⟩:=lX f v r
  rw [show eI f v ((k,x)::r)=(if k=f then (k,v)::r else (k,x)::eI f v r) from rfl]
  by_cases hk:k=f
  ·rw [if_pos hk]
   subst hk
   exact⟨by simp,fun g h=>by simpa using h⟩
  ·rw [if_neg hk]
   refine⟨?_,fun g h=>?_⟩
   ·rw [GK]
    exact Gv _ i1
   ·rw [GK] at h ⊢
    rcases Gn.mp h with e | e
    ·exact Gn.mpr (.inl e)
    ·exact Gv _ (i2 g e)
theorem nV (f:Str)(v:V):∀fs:List (Str×V),(eI f v fs).length<=fs.length+1
 | []=>by simp [eI]
 | (k,x)::r=>by
  have ih:=nV f v r
  rw [show eI f v ((k,x)::r)=(if k=f then (k,v)::r else (k,x)::eI f v r) from rfl]
  by_cases hk:k=f
  ·rw [if_pos hk,G0,G0];omega
  ·rw [if_neg hk,G0,G0];omega
theorem eW.some_of {v:V}{o:Option Value}(r:eW (some v) o):∃u,o=some u/\RelV v u:=by
 cases o with
 | none=>exact (show False from r).elim
 | some u=>exact⟨u,rfl,r⟩
theorem eW.none_of {o:Option Value}(r:eW none o):o=none:=by
 cases o with
 | none=>rfl
 | some u=>exact (show False from r).elim
theorem yq {v:V}{u:Value}(r:RelV v u):PySem.W.handedIn u=true:=by
 cases v with
 | aZ=>cases (show u=Value.none from r);rfl
 | bl b=>cases (show u=Value.bool b from r);rfl
 | int i=>obtain⟨t,e⟩:=(show ∃t,u=Value.int i t from r);cases e;rfl
 | str x=>obtain⟨t,e⟩:=(show ∃t,u=Value.str x t from r);cases e;rfl
 | jb b=>obtain⟨t,e⟩:=(show ∃t,u=Value.bytes b t from r);cases e;rfl
 | rO b=>obtain⟨t,e⟩:=(show ∃t,u=Value.float b t from r);cases e;rfl
 | ref a=>cases (show u=Value.ref a from r);rfl
 | ty n=>cases (show u=Value.type n from r);rfl
section
variable {P:Program}{w:World}{H H':Hp}{h h':Heap}{a C dx:Addr}{fs fs':List (Str×V)}
theorem m6 (aL:dn P w H h)(e:H a=some (.ins C dx fs)):∃mA,oC h a dx C mA/\(∀f,eW (fs.lookup f) (mA f))/\PySem.Within mA (fs.map (·.1))/\fs.length<=1000/\H dx=some (.own a):=by
 obtain⟨d,z,ne,ob,mA,n,r,q⟩:=(show bM P w H h a (.ins C dx fs) from aL a _ e)
 exact⟨mA,⟨ob,n,ne⟩,r,q,z,d⟩
end
structure lJ (K:Gh) (C:Addr):Prop where
 pg:HP K C Str.empty=true
 hd:Ih K C=true
 po:IL K C=true
 sa:GU K (.ref C) "__setattr__" = some (some (.builtin "object.__setattr__"))
theorem lJ.get {K:Gh}{C:Addr}(c:lJ K C)(f:Str):HP K C f=true:=c.pg
def iM (K:Gh)(C:Addr)(f:Str):Prop:=GU K (.ref C) f=some none
theorem iM.Ew {K:Gh}{C:Addr}{f:Str}(n:iM K C f):PySem.W.takerIn K C f=some none:=by
 unfold PySem.W.takerIn
 rw [show GU K (.ref C) f=some none from n]
 rfl
structure Meth (K:Gh) (C:Addr) (m:Str) (f:Addr):Prop where
 at_:GU K (.ref C) m=some (some (.ref f))
 fn:HQ K (.ref f)=true
 kp:Hd K (.ref f)=true
section
variable {X:Cx}{pins:List (Addr×Obj)}{Gf : St}{H:Hp}{s:Shared}{a C dx:Addr}{fs:List (Str×V)}{f:Str}{v:V}{A:Around}{E:Value->Shared->Prop}
theorem xb {b:Bool}{Q:Value->Shared->Prop}(I:Inv X pins Gf H s)(e:H a=some (.ins C dx fs))(c:lJ X.K C)(n:iM X.K C f)(l:fs.lookup f=some v)
  (h:∀u s',Inv X pins Gf H s'->RelV v u->Q u s'):wpAny (model X.prog X.w) A (getAttr (.ref a) f b) Q E s:=by
 obtain⟨mA,O,r,_,_,_⟩:=m6 I.aL e
 obtain⟨u,hu,ru⟩:=eW.some_of (v:=v) (o:=mA f) (by rw [<-l];exact r f)
 exact get_map I.en O (c.get f) c.hd n hu (yq ru) (h u _ (I.tok _) ru)
theorem xc {m:Str}{g:Addr}{pl:Sem Bool}{Q:Value×List Value->Shared->Prop}(I:Inv X pins Gf H s)(e:H a=some (.ins C dx fs))(c:lJ X.K C)(k:Meth X.K C m g)(l:fs.lookup m=none)
  (h:Q (.ref g,[.ref a]) s):wpAny (model X.prog X.w) A (getMethod (.ref a) m pl) Q E s:=by
 obtain⟨mA,O,r,_,_,_⟩:=m6 I.aL e
 have hn:mA m=none:=eW.none_of (by rw [<-l];exact r m)
 exact z6 I.en O (c.get m) k.at_ k.fn hn h
theorem xf {y:V}{u:Value}{Q:Unit->Shared->Prop}(I:Inv X pins Gf H s)(e:H a=some (.ins C dx fs))(c:lJ X.K C)(n:iM X.K C f)(hl:fs.length<1000)(ry:RelV y u)
  (h:∀s',Inv X pins Gf (upd H a (.ins C dx (eI f y fs))) s'->Q () s'):wpAny (model X.prog X.w) A (setAttr (.ref a) f u) Q E s:=by
 obtain⟨mA,O,r,wi,_,ho⟩:=m6 I.aL e
 have hz:(fs.map (·.1)).length<=sizeLine:=by rw [Gi,sizeLine_eq];omega
 refine BR I.en O c.sa c.po n.Ew c.hd wi hz fun h' O' sb=>h _ ?_
 have hd:∃o,h'.get? dx=some o:=let ⟨o,_,_,e',_⟩:=O'.ns;⟨o,e'⟩
 refine I.write (x:=a) (e:=dx) (by rw [e];exact True.intro) (.inr ho) (fun b q hb z=>(sb.2 b hb).trans z) hd ?_
 refine⟨by rw [ao O.ne];exact ho,?_,O.ne,O'.obj,_,O'.ns,fun g=>?_,fun g hg=>?_⟩
 ·have:=nV f y fs;omega
 ·show eW ((eI f y fs).lookup g) (if g=f then some u else mA g)
  rw [nU]
  by_cases q:g=f
  ·rw [if_pos q,if_pos q];exact ry
  ·rw [if_neg q,if_neg q];exact r g
 ·by_cases q:g=f
  ·rw [q];exact (lX f y fs).1
  ·refine (lX f y fs).2 g (wi g fun z=>hg ?_)
   show (if g=f then some u else mA g)=none
   rw [if_neg q];exact z
theorem Inv.made (I:Inv X pins Gf H s):Inv X pins Gf (upd (upd H s.heap.objs.size (.own (s.heap.objs.size+1))) (s.heap.objs.size+1) (.ins C s.heap.objs.size []))
  { s with heap:=(s.heap.push Hl).push (Ht C s.heap.objs.size) }:=by
 have e1:(s.heap.push Hl).get? s.heap.objs.size=some Hl:=Gu s.heap rfl
 have e2:((s.heap.push Hl).push (Ht C s.heap.objs.size)).get? (s.heap.objs.size+1)=some (Ht C s.heap.objs.size):=by
  have:=Gu (s.heap.push Hl) (o:=Ht C s.heap.objs.size) rfl
  rwa [GP] at this
 have e3:(s.heap.push Hl).Ns s.heap.objs.size (fun _=>none):=⟨Hl,#[],_,e1,rfl,(fun e he=>absurd he (by simp)),fun _=>rfl⟩
 have I1:=I.laid (a:=s.heap.objs.size) (o:=.own (s.heap.objs.size+1)) (h':=s.heap.push Hl) (t':=s.toks) (fun b u q=>Gp _ q) (Gj _) ⟨_,e1⟩
 refine I1.laid (a:=s.heap.objs.size+1) (o:=.ins C s.heap.objs.size []) (t':=s.toks) (fun b u q=>Gp _ q) (Nat.le_of_eq (GP _ _)) ?_
 have ne:s.heap.objs.size≠s.heap.objs.size+1:=Gs (Hf _)
 refine⟨by rw [ao ne,aa],GI _,ne,e2,fun _=>none,(Heap.Ns1.of_empty e3).at fun o q=>Gp _ q,fun _=>True.intro,fun y hy=>absurd rfl hy⟩
theorem BS {prog:Program}{w:World}{env:Env}{e:Expr}{f:Str}{pos:Pos}{s:Shared}{Q:Value->Shared->Prop}(hb:attributeBase e f env (eval e env)=eval e env)
  (h:wpAny (model prog w) A (eval e env) (fun o s₁=>wpAny (model prog w) A (getAttr o f true) Q E s₁) E s):wpAny (model prog w) A (eval (.Attribute e f pos) env) Q E s :=
 Attribute_any_ h (by rw [arm_eval_Attribute,hb])
end
inductive BU (K:Gh) (f:Str) (Q:VK) (x:V) (H1:Hp):Prop
 | mk (a C dx fs v:_) (_:x=.ref a) (_:H1 a=some (.ins C dx fs)) (_:lJ K C) (_:iM K C f) (_:fs.lookup f=some v) (_:Q v H1)
def Dk (K:Gh)(ta:TE)(f:Str):TE:=fun Gf H Q=>ta Gf H fun x H1=>BU K f Q x H1
inductive BW (K:Gh) (f:Str) (D:Ends) (Gf : St) (y:V) (x:V) (H2:Hp):Prop
 | mk (a C dx fs:_) (_:x=.ref a) (_:H2 a=some (.ins C dx fs)) (_:lJ K C) (_:iM K C f) (_:fs.length<1000) (_:D.nx Gf (upd H2 a (.ins C dx (eI f y fs))))
def Fo (K:Gh)(ta tv:TE)(f:Str):TS:=fun D Gf H=>tv Gf H fun y H1=>ta Gf H1 fun x H2=>BW K f D Gf y x H2
section
variable {X:Cx}{o e value:Expr}{f:Str}{pos pos' tpos:Pos}{ta tv:TE}
theorem fo (he:PE X e ta)(hb:attributeBase e f X.env (eval e X.env)=eval e X.env):PE X (.Attribute e f pos) (Dk X.K ta f):=by
 intro pins s Gf H Q I h
 refine BS hb (bB (he pins s Gf H _ I h) fun u s1 ⟨x,H1,I1,rx,a,C,dx,fs,v,ex,ea,c,n,l,q⟩=>?_)
 subst ex
 obtain rfl:u=Value.ref a:=rx
 exact xb I1 ea c n l fun u' s2 I2 ru=>⟨v,H1,I2,ru,q⟩
theorem yr (ha:PE X o ta)(hv:PE X value tv)(hs:swapsWith value (some (.Attribute o f pos')) pos.line X.env=pure false):PS X (.Assign [.Attribute o f pos'] value pos) (Fo X.K ta tv f):=by
 intro pins s Gf H D I h
 refine plainObj_wpAny_Assign_Attribute (bB (hv pins s Gf H _ I h) fun u s1 ⟨y,H1,I1,ry,q⟩=>bB (ha pins s1 Gf H1 _ I1 q) fun ov s2 ⟨x,H2,I2,rx,a,C,dx,fs,ex,ea,c,n,l,q2⟩=>?_) hs
 subst ex
 obtain rfl:ov=Value.ref a:=rx
 exact xf I2 ea c n l ry fun s3 I3=>⟨Gf,_,I3,q2⟩
end
section
variable {X:Cx}{pins:List (Addr×Obj)}{Gf : St}{H:Hp}{s:Shared}{A:Around}{E:Value->Shared->Prop}{Q:Value->Shared->Prop}{c:Value}{b:Bool}
inductive fY (K:Gh) (H:Hp):V->Value->Prop where
 | aZ:fY K H .aZ (.type "NoneType")
 | bl (x:Bool):fY K H (.bl x) (.type "bool")
 | int (i:Int):fY K H (.int i) (.type "int")
 | str (x:Str):fY K H (.str x) (.type "str")
 | rO (x:UInt64):fY K H (.rO x) (.type "float")
 | lst {a:Addr} {xs:List V} (e:H a=some (.lst xs)):fY K H (.ref a) (.type "list")
 | d5 {a:Addr} {o:Obj} {xs:List V} (e:H a=some (.d5 o (.lst xs))):fY K H (.ref a) (.type "list")
 | tup {a:Addr} {xs:List V} (e:H a=some (.tup xs)):fY K H (.ref a) (.type "tuple")
 | dK {a:Addr} {kvs:List (Key×V)} (e:H a=some (.dK kvs)):fY K H (.ref a) (.type "dict")
 | dT {a:Addr} {kvs:List (List Key×V)} (e:H a=some (.dT kvs)):fY K H (.ref a) (.type "dict")
 | ins {a C dx:Addr} {fs:List (Str×V)} (e:H a=some (.ins C dx fs)) (cl:lJ K C) (ha:GU K (.ref C) "__class__" = some (some (.builtin "object.__class__")))
   (hn:PySem.W.specialIn K (.builtin "object.__class__") "__get__" = some (some (.builtin "getset_descriptor.__get__"))) (htk:PySem.W.takesIn K (.builtin "object.__class__")=some true)
   (hm:HG K C (.type "object")=some true):fY K H (.ref a) (.ref C)
theorem yt {x:V}{u t:Value}(I:Inv X pins Gf H s)(rx:RelV x u)(ty:fY X.K H x t)(e:PySem.W.kitOne X.K t c=some b)(h:∀tk,Q (.bool b) { s with toks:=tk }) :
  wpAny (model X.prog X.w) A (call (.builtin "isinstance") [u,c]) Q E s:=by
 cases ty with
 | aZ=>cases (show u=Value.none from rx);exact He PySem.W.kitx_none I.en True.intro e (fun z=>nomatch z) h
 | bl y=>cases (show u=Value.bool y from rx);exact He PySem.W.kitx_bool I.en True.intro e (fun z=>nomatch z) h
 | int i=>obtain⟨t,q⟩:=(show ∃t,u=Value.int i t from rx);cases q;exact He PySem.W.kitx_int I.en True.intro e (fun z=>nomatch z) h
 | str y=>obtain⟨t,q⟩:=(show ∃t,u=Value.str y t from rx);cases q;exact He PySem.W.kitx_str I.en True.intro e (fun z=>nomatch z) h
 | rO y=>obtain⟨t,q⟩:=(show ∃t,u=Value.float y t from rx);cases q;exact He PySem.W.kitx_float I.en True.intro e (fun z=>nomatch z) h
 | @lst a xs ea =>
  cases (show u=Value.ref a from rx)
  obtain⟨_,_,n,_,h1⟩:=(show bM X.prog X.w H s.heap a (.lst xs) from I.aL a _ ea)
  exact He PySem.W.kitx_list I.en ⟨_,h1,rfl⟩ e (fun z=>nomatch z) h
 | @d5 a ob xs ea =>
  cases (show u=Value.ref a from rx)
  obtain⟨_,_,_,n,_,h1⟩:=(show bM X.prog X.w H s.heap a (.d5 ob (.lst xs)) from I.aL a _ ea)
  exact He PySem.W.kitx_list I.en ⟨_,h1,rfl⟩ e (fun z=>nomatch z) h
 | @tup a xs ea =>
  cases (show u=Value.ref a from rx)
  obtain⟨_,_,_,p⟩:=(show bM X.prog X.w H s.heap a (.tup xs) from I.aL a _ ea)
  obtain⟨o,h1,h2,_⟩:=p
  exact He PySem.W.kitx_tuple I.en ⟨o,h1,h2⟩ e (fun z=>nomatch z) h
 | @dK a kvs ea =>
  cases (show u=Value.ref a from rx)
  obtain⟨_,_,vs,_,p⟩:=(show bM X.prog X.w H s.heap a (.dK kvs) from I.aL a _ ea)
  obtain⟨o,es,ep,h1,h2,_⟩:=p
  exact He PySem.W.kitx_dict I.en ⟨o,h1,h2.1⟩ e (fun z=>nomatch z) h
 | @dT a kvs ea =>
  cases (show u=Value.ref a from rx)
  obtain⟨_,_,xs,_,o,es,ep,h1,h2,_⟩:=(show bM X.prog X.w H s.heap a (.dT kvs) from I.aL a _ ea)
  exact He PySem.W.kitx_dict I.en ⟨o,h1,h2.1⟩ e (fun z=>nomatch z) h
 | @ins a C dx fs ea cl ha hn htk hm =>
  cases (show u=Value.ref a from rx)
  obtain⟨mA,O,_⟩:=m6 I.aL ea
  obtain⟨od,J,_⟩:=O.look
  exact He (PySem.W.kitx_own (cl.get _) cl.hd ha hn htk hm) I.en J e (fun z=>nomatch z) h
end
structure de (k:Nat) (A:Around):Prop where
 hd:A.handled=none
 dp:A.depth+3*k+5<recursionLimit
 un:A.units+16*k+200<cLine
theorem de.mono {j k:Nat}{A:Around}(r:de k A)(h:j<=k):de j A:=⟨r.hd,by have:=r.dp;omega,by have:=r.un;omega⟩
theorem de.deeper {k:Nat}{A:Around}(r:de (k+1) A)(env:Env):de k (A.deeper env) :=
 ⟨r.hd,by have:=r.dp;show A.depth+1+3*k+5<_;omega,by have:=r.un;show A.units+3+16*k+200<_;omega⟩
theorem xg {A:Around} {C:Addr} {us:List Value} {kw:List (Str×Value)}:(A.under (.builtin "type.__call__" ⟨.ref C::us,kw⟩)).depth=A.depth+1:=by
 first | rfl | simp [Around.under,Code.weight,Code.isCreation,Code.isGuard,Code.isCaller,Code.frames,Code.isFrame,guardIds]
theorem xh {A:Around} {C:Addr} {us:List Value} {kw:List (Str×Value)}:(A.under (.builtin "type.__call__" ⟨.ref C::us,kw⟩)).units=A.units+1:=by
 first | rfl | simp [Around.under,Code.cUnits,Code.frames,Code.isFrame]
theorem de.make {k:Nat} {A:Around} (r:de (k+1) A) (C:Addr) (us:List Value) (kw:List (Str×Value)):de k (A.under (.builtin "type.__call__" ⟨.ref C::us,kw⟩)) :=
 ⟨r.hd,by have:=r.dp;rw [xg];omega,by have:=r.un;rw [xh];omega⟩
theorem de.depth {k:Nat}{A:Around}(r:de k A):A.depth<recursionLimit:=by have:=r.dp;omega
theorem de.units {k:Nat}{A:Around}(r:de k A):A.units+64<cLine:=by have:=r.un;omega
def oE:TA:=fun _ H Q=>Q [] H
def fU (ta:TE)(tr:TA):TA:=fun Gf H Q=>ta Gf H fun x H1=>tr Gf H1 fun xs H2=>Q (x::xs) H2
section
variable {X:Cx}{e:Expr}{es:List Expr}{te:TE}{t:TA}{pos:Pos}
theorem bQ:PA X [] oE:=fun _ _ _ _ H Q I h=>Calls.spliced_nil ⟨[],H,I,.nil,h⟩
theorem bH (ha:PE X e te)(hr:PA X es t)(hs:starEach (e::es) X.env=(false,eval e X.env)::starEach es X.env:=by rfl):PA X (e::es) (fU te t):=by
 intro pos pins s Gf H Q I h
 rw [hs]
 show wpAny _ _ (spliced ((false,eval e X.env)::backTo pos (starEach es X.env))) _ _ s
 refine Calls.spliced_cons (bB (ha pins s Gf H _ I h) fun u s1 ⟨x,H1,I1,r1,q1⟩=>?_)
 exact bB (hr pos pins s1 Gf H1 _ I1 q1) fun us s2 ⟨xs,H2,I2,r2,q2⟩=>⟨x::xs,H2,I2,.cons r1 r2,q2⟩
def Dl (t:TA):TE:=fun Gf H Q=>t Gf H fun xs H1=>xs.length<=sizeLine/\∀p,H1 p=none->Q (.ref p) (upd H1 p (.tup xs))
def Fp (t:TA):TE:=fun Gf H Q=>t Gf H fun xs H1=>xs.length<=sizeLine/\∀p,H1 p=none->Q (.ref p) (upd H1 p (.lst xs))
theorem aB {x1}(h:PA X es t):PE X (.Tuple es x1 pos) (Dl t):=by
 intro pins s Gf H Q I hq
 refine wpAny_Tuple_spliced (bB (h pos pins s Gf H _ I hq) fun us s1 ⟨xs,H1,I1,r,z,q⟩=>⟨by rw [<-r.length];exact z,?_⟩)
 have hf:H1 s1.heap.objs.size=none:=I1.aL.fresh (Gj _)
 refine⟨.ref s1.heap.objs.size,upd H1 s1.heap.objs.size (.tup xs),I1.laid (t':=s1.toks) (fun b u e=>Gp _ e) (Gj _) ?_,rfl,q _ hf⟩
 exact⟨z,us,r,⟨_,Gu _ rfl,rfl,_,rfl,rfl⟩⟩
theorem bZ (h:PA X es t):PE X (.List es pos) (Fp t):=by
 intro pins s Gf H Q I hq
 refine wpAny_List_spliced (bB (h pos pins s Gf H _ I hq) fun us s1 ⟨xs,H1,I1,r,z,q⟩=>⟨by rw [<-r.length];exact z,?_⟩)
 have hf:H1 s1.heap.objs.size=none:=I1.aL.fresh (Gj _)
 refine⟨.ref s1.heap.objs.size,upd H1 s1.heap.objs.size (.lst xs),I1.laid (t':=s1.toks) (fun b u e=>Gp _ e) (Gj _) ?_,rfl,q _ hf⟩
 exact⟨z,us,0,r,Gu _ rfl⟩
end
abbrev Sp:=List V->Hp->VK->XK->Prop
abbrev lK:=List Env->Hp->Shared->XK->Value->Shared->Prop
structure oF (P:Program) (w:World) (K:Gh) (mg:Str->Option Value) (base:Heap) (A:Around) (outer:List Env) (s:Shared) (H:Hp):Prop where
 frames:A.frames=some outer
 mod:Mod K mg base
 bs:∀b o,base.get? b=some o->s.heap.get? b=some o/\H b=none
 lI:base.objs.size<=s.heap.objs.size
 gC:s.heap.FunFrames base outer
 nR:∀b∈cD outer,H b=none
 aL:dn P w H s.heap
 bare:AllBare s.gens
def CE (outer:List Env)(P:Program)(w:World)(H:Hp)(s:Shared)(Q:VK)(u:Value)(s':Shared):Prop :=
 ∃v H',s'.os=s.os/\AllBare s'.gens/\Un (cD outer) [] H H' s.heap s'.heap/\dn P w H' s'.heap/\RelV v u/\Q v H'
def CR (CX:lK)(outer:List Env)(P:Program)(w:World)(H:Hp)(s:Shared)(Q:VK)(E:XK)(r:Result)(s':Shared):Prop :=
 match r with
 | .ok (.ret u)=>CE outer P w H s Q u s'
 | .ok _=>False
 | .error e=>CX outer H s E e s'
structure bA (P:Program) (w:World) (K:Gh) (mg:Str->Option Value) (base:Heap) (CX:lK) (k:Nat) (f:Addr) (fd:FuncData) (ps:List Str) (sp:Sp):Prop where
 len:∀vs H Q E,sp vs H Q E->vs.length=ps.length
 run:∀(A:Around) (outer:List Env) (s:Shared) (H:Hp) (args:Args) (us:List Value) (vs:List V) (Q:VK) (E:XK),de k A->oF P w K mg base A outer s H->BindsTo s fd args (ps.zip us)->Vals vs us->sp vs H Q E ->
  codeAny (model P w) A (.call (.ref f) args) (CR CX outer P w H s Q E) s
theorem oF.make {P:Program}{w:World}{K:Gh}{mg:Str->Option Value}{base:Heap}{A:Around}{outer:List Env}{s:Shared}{H:Hp}(e:oF P w K mg base A outer s H)(C:Addr)(us:List Value)(kw:List (Str×Value)) :
  oF P w K mg base (A.under (.builtin "type.__call__" ⟨.ref C::us,kw⟩)) outer s H:=⟨by first | exact e.frames | (simpa [Around.under,Code.envs,Code.isFrame,pushEnvs] using e.frames),e.mod,e.bs,e.lI,e.gC,e.nR,e.aL,e.bare⟩
section
variable {X:Cx}{pins:List (Addr×Obj)}{Gf : St}{H:Hp}{s s':Shared}
theorem Inv.Dm (I:Inv X pins Gf H s):oF X.prog X.w X.K X.mg X.base X.A X.stack s H :=
 ⟨I.ok.frames,I.ok.mod,I.bs,Gr I.ok.lI I.sz,I.stack,I.j3,I.aL,I.bare⟩
theorem Inv.after {Q:VK}{u:Value}(I:Inv X pins Gf H s)(h:CE X.stack X.prog X.w H s Q u s'):EP X pins Gf Q u s':=by
 obtain⟨v,H',os,bare,un,aL,r,q⟩:=h
 obtain⟨hh,g,d,t,os'⟩:=s'
 obtain rfl:os' = s.os:=os
 exact⟨v,H',I.call (h':=hh) (g':=g) (d':=d) (t':=t) (ch:=[]) un aL bare (fun b z=>absurd z (by simp)),r,q⟩
end
def tG (sp:Sp)(dvs:List V)(E:XK)(t:TA):TE:=fun Gf H Q=>t Gf H fun vs H1=>sp (vs++dvs) H1 Q E
inductive z8 (C:Addr) (m:Str) (sp:Sp) (dvs:List V) (E:XK) (t:TA) (Gf : St) (Q:VK) (x:V) (H1:Hp):Prop
 | mk (a dx fs:_) (_:x=.ref a) (_:H1 a=some (.ins C dx fs)) (_:fs.lookup m=none) (_:t Gf H1 fun vs H2=>sp (x::(vs++dvs)) H2 Q E)
def Bu (C:Addr)(m:Str)(sp:Sp)(dvs:List V)(E:XK)(ta:TE)(t:TA):TE:=fun Gf H Q=>ta Gf H fun x H1=>z8 C m sp dvs E t Gf Q x H1
def Bv (C:Addr)(sp:Sp)(dvs:List V)(E:XK)(t:TA):TE:=fun Gf H Q=>t Gf H fun vs H1=>∀x dx,H1 x=none->H1 dx=none->dx≠x ->
 sp (.ref x::(vs++dvs)) (upd (upd H1 dx (.own x)) x (.ins C dx [])) (fun v H2=>v=.aZ/\Q (.ref x) H2) E
def Binds (K:Gh)(fd:FuncData)(ps:List Str)(ds:List Value):Prop :=
 ∀(s:Shared) (us:List Value),K.In s.heap->(us++ds).length=ps.length->BindsTo s fd ⟨us,[]⟩ (ps.zip (us++ds))
theorem Binds.all {K:Gh}{fd:FuncData}{ps:List Str}(h:∀us:List Value,us.length=ps.length->bindArgs fd ⟨us,[]⟩=pure (ps.zip us)):Binds K fd ps []:=fun s us _ hl=>by
 rw [Hm] at hl ⊢
 exact .of_eq (h us hl)
def Passes (CX:lK)(X:Cx)(E:XK):Prop:=∀(pins:List (Addr×Obj)) (Gf : St) (H:Hp) (s:Shared) (e:Value) (s':Shared),Inv X pins Gf H s->CX X.stack H s E e s'->X.xe e s'
section
variable {X:Cx}{CX:lK}{k:Nat}{f C:Addr}{fd:FuncData}{ps:List Str}{sp:Sp}{dvs:List V}{ds:List Value}{E:XK}{x m:Str}{p pos apos:Pos}{e o:Expr}{es:List Expr}{ta:TE}{t:TA}
theorem yu {pins:List (Addr×Obj)}{Gf : St}{H:Hp}{s:Shared}{Q:VK}{us:List Value}{vs:List V}(F:bA X.prog X.w X.K X.mg X.base CX k f fd ps sp)(hr:de k X.A)(hb:Binds X.K fd ps ds)(hd:Vals dvs ds)(hx:Passes CX X E)
  (I:Inv X pins Gf H s) (r:Vals vs us) (h:sp (vs++dvs) H Q E):wpAny (model X.prog X.w) X.A (call (.ref f) us) (EP X pins Gf Q) X.xe s:=by
 have r2:Vals (vs++dvs) (us++ds):=r.append hd
 have hl:(us++ds).length=ps.length:=by rw [<-r2.length];exact F.len _ _ _ _ h
 refine wpAny_call (Jh (F.run X.A X.stack s H ⟨us,[]⟩ (us++ds) (vs++dvs) Q E hr I.Dm (hb s us I.en hl) r2 h) fun r s' hq=>?_)
 cases r with
 | error e=>exact hx pins Gf H s e s' I hq
 | ok fl =>
  cases fl with
  | ret u=>exact I.after hq
  | next=>exact False.elim hq
  | brk=>exact False.elim hq
  | cont=>exact False.elim hq
theorem vQ (F:bA X.prog X.w X.K X.mg X.base CX k f fd ps sp)(hr:de k X.A)(hg:Gl X x)(hm:X.mg x=some (.ref f))(hk:Hd X.K (.ref f)=true)(hb:Binds X.K fd ps ds)(hd:Vals dvs ds)(hx:Passes CX X E)
  (ha:PA X (e::es) t) (hdb:(x == ("__debug__" : Str))=false:=by decide) (he:starEach (e::es) X.env=(false,eval e X.env)::starEach es X.env:=by rfl) (hpl:(backTo pos (starEach es X.env)).any (·.1)=false:=by rfl) :
  PE X (.Call (.Name x p) (e::es) [] pos) (tG sp dvs E t):=by
 intro pins s Gf H Q I h
 refine Jq (j4 I hg hm ?_ hdb)
 refine IM (h₀:=X.base) I.ok.mod.jE hk (bB (ha pos pins s Gf H _ I h) fun us s1 ⟨vs,H1,I1,r,q⟩=>⟨I1.en,?_⟩) he hpl
 exact yu F hr hb hd hx I1 r q
theorem BX {pl:Sem Bool}(he:PE X o ta)(c:lJ X.K C)(hm:Meth X.K C m f)(F:bA X.prog X.w X.K X.mg X.base CX k f fd ps sp)(hr:de k X.A)(hb:Binds X.K fd ps ds)(hd:Vals dvs ds)(hx:Passes CX X E)(ha:PA X (e::es) t)
  (hst:starEach (e::es) X.env=(false,eval e X.env)::starEach es X.env:=by rfl) (hpl:(backTo pos (starEach es X.env)).any (·.1)=false:=by rfl)
  (ht:eval (.Call (.Attribute o m apos) (e::es) [] pos) X.env=(do
   let ov <-eval o X.env
   standAt apos.atName
   let (f,first) <-holding [ov] (getMethod ov m pl)
   callWith pos f first (backTo pos (starEach (e::es) X.env)) (backToKw pos (keywordEach [] X.env))):=by rfl) :
  PE X (.Call (.Attribute o m apos) (e::es) [] pos) (Bu C m sp dvs E ta t):=by
 intro pins s Gf H Q I h
 refine PySem.W.methodCall_KW (pl:=pl) (bB (he pins s Gf H _ I h) fun u s1 ⟨x,H1,I1,rx,a,dx,fs,ex,ea,l,q⟩=>?_) ht
 subst ex
 obtain rfl:u=Value.ref a:=rx
 refine xc I1 ea c hm l ?_
 refine IM (first:=[.ref a]) (h₀:=X.base) I.ok.mod.jE hm.kp (bB (ha pos pins s1 Gf H1 _ I1 q) fun us s2 ⟨vs,H2,I2,r,q2⟩=>⟨I2.en,?_⟩) hst hpl
 exact yu (us:=.ref a::us) (vs:=.ref a::vs) F hr hb hd hx I2 (.cons rfl r) q2
structure Mk (K:Gh) (C f:Addr):Prop where
 makes:Ii K C=true
 init:GU K (.ref C) "__init__" = some (some (.ref f))
 fn:HQ K (.ref f)=true
 kp:Hd K (.ref C)=true
theorem Aa {pins:List (Addr×Obj)}{Gf : St}{H:Hp}{s:Shared}{Q:VK}{us:List Value}{vs:List V}(M:Mk X.K C f)(F:bA X.prog X.w X.K X.mg X.base CX k f fd ps sp)(hr:de (k+1) X.A)(hb:Binds X.K fd ps ds)(hd:Vals dvs ds)
  (hx:Passes CX X E) (I:Inv X pins Gf H s) (r:Vals vs us)
  (h:∀x dx,H x=none->H dx=none->dx≠x->sp (.ref x::(vs++dvs)) (upd (upd H dx (.own x)) x (.ins C dx [])) (fun v H2=>v=.aZ/\Q (.ref x) H2) E) :
  wpAny (model X.prog X.w) X.A (call (.ref C) us) (EP X pins Gf Q) X.xe s:=by
 have hq:=h (s.heap.objs.size+1) s.heap.objs.size (I.aL.fresh (Hn _)) (I.aL.fresh (Gj _)) (Gs (Hf _))
 have I2:=Inv.made (C:=C) I
 have r2:Vals (V.ref (s.heap.objs.size+1)::(vs++dvs)) (Value.ref (s.heap.objs.size+1)::(us++ds)):=.cons rfl (r.append hd)
 have hl:(Value.ref (s.heap.objs.size+1)::us++ds).length=ps.length:=by
  have e:=r2.length
  rw [F.len _ _ _ _ hq] at e
  exact e.symm
 refine wpAny_call (z7 (f:=f) I.en M.makes M.init (beq_iff_eq.mp M.fn) (Jh (F.run _ X.stack _ _ ⟨Value.ref (s.heap.objs.size+1)::us,[]⟩ (Value.ref (s.heap.objs.size+1)::(us++ds)) _ _ E (hr.make C us [])
  (I2.Dm.make C us []) (hb _ (Value.ref (s.heap.objs.size+1)::us) I2.en hl) r2 hq) fun r s' hq'=>?_))
 cases r with
 | error e=>exact hx pins Gf _ _ e s' I2 hq'
 | ok fl =>
  cases fl with
  | ret u =>
   obtain⟨v,H',I3,rv,ev,q3⟩:=I2.after hq'
   subst ev
   exact⟨rv,⟨V.ref (s.heap.objs.size+1),H',I3,rfl,q3⟩⟩
  | next=>exact False.elim hq'
  | brk=>exact False.elim hq'
  | cont=>exact False.elim hq'
theorem BY (M:Mk X.K C f)(F:bA X.prog X.w X.K X.mg X.base CX k f fd ps sp)(hr:de (k+1) X.A)(hg:Gl X x)(hm:X.mg x=some (.ref C))(hb:Binds X.K fd ps ds)(hd:Vals dvs ds)(hx:Passes CX X E)
  (ha:PA X (e::es) t) (hdb:(x == ("__debug__" : Str))=false:=by decide) (he:starEach (e::es) X.env=(false,eval e X.env)::starEach es X.env:=by rfl) (hpl:(backTo pos (starEach es X.env)).any (·.1)=false:=by rfl) :
  PE X (.Call (.Name x p) (e::es) [] pos) (Bv C sp dvs E t):=by
 intro pins s Gf H Q I h
 refine Jq (j4 I hg hm ?_ hdb)
 refine IM (h₀:=X.base) I.ok.mod.jE M.kp (bB (ha pos pins s Gf H _ I h) fun us s1 ⟨vs,H1,I1,r,q⟩=>⟨I1.en,?_⟩) he hpl
 exact Aa M F hr hb hd hx I1 r q
end
section
variable {X:Cx}{CX:lK}{k:Nat}{f C:Addr}{fd:FuncData}{ps ks:List Str}{sp:Sp}{E:XK}{x m:Str}{p pos apos kpos:Pos}{e o:Expr}{es:List Expr}{kws:List Keyword}{te ta:TE}{t tk:TA}{nm:Option Str}
variable {g:List Value->List Value->List Value}{gV:List V->List V->List V}
end
structure aR (N P:List Str) (sc:Scope):Prop where
 kind:sc.kind=.function
 co:sc.isCoroutine=false
 gen:sc.isGenerator=false
 nd:N.Nodup
 pre:N.take P.length=P
 par:∀x∈P,sc.names.lookup x=some .local\/sc.names.lookup x=some .cell
 Dn:∀y∈sc.names,y.2≠.free
theorem rS {kindOf:Str->Option NameKind}{x:Str}:∀{binds:List (Str×Value)} {m:Str->Option Value},(∀v,(x,v)∉binds)->bindL kindOf binds m x=m x
 | [],_,_=>rfl
 | (n,v)::r,m,h=>by
  unfold bindL
  rw [rS fun w hw=>h w (Gv _ hw)]
  split
  ·have:x≠n:=by rintro rfl;exact h v Gx
   simp [this]
  ·rfl
theorem rT {kindOf:Str->Option NameKind}{x:Str}:∀{binds:List (Str×Value)} {m:Str->Option Value},(∀v,(x,v)∉binds)->bindC kindOf binds m x=m x
 | [],_,_=>rfl
 | (n,v)::r,m,h=>by
  unfold bindC
  rw [rT fun w hw=>h w (Gv _ hw)]
  split
  ·rfl
  ·have:x≠n:=by rintro rfl;exact h v Gx
   simp [this]
theorem rV {kindOf:Str->Option NameKind}{x:Str}{v:Value}:∀{P:List Str} {vs:List Value} {i:Nat} {m:Str->Option Value},P.Nodup->P[i]?=some x->vs[i]?=some v->kindOf x=some .local ->
  bindL kindOf (P.zip vs) m x=some v
 | [],_,_,_,_,h,_,_=>by simp at h
 | _::_,[],_,_,_,_,h,_=>by simp at h
 | p::P,w::vs,0,m,nd,h1,h2,hk=>by
  simp at h1 h2;subst h1;subst h2
  show bindL kindOf ((p,w)::P.zip vs) m p=_
  unfold bindL
  rw [rS fun v hv=>(Ho.mp nd).1 (Ij hv).1,if_pos hk]
  simp
 | p::P,w::vs,i+1,m,nd,h1,h2,hk=>by
  show bindL kindOf ((p,w)::P.zip vs) m x=_
  unfold bindL
  exact rV (i:=i) (Ho.mp nd).2 (by simpa using h1) (by simpa using h2) hk
theorem rW {kindOf:Str->Option NameKind}{x:Str}{v:Value}:∀{P:List Str} {vs:List Value} {i:Nat} {m:Str->Option Value},P.Nodup->P[i]?=some x->vs[i]?=some v->kindOf x≠some .local ->
  bindC kindOf (P.zip vs) m x=some v
 | [],_,_,_,_,h,_,_=>by simp at h
 | _::_,[],_,_,_,_,h,_=>by simp at h
 | p::P,w::vs,0,m,nd,h1,h2,hk=>by
  simp at h1 h2;subst h1;subst h2
  show bindC kindOf ((p,w)::P.zip vs) m p=_
  unfold bindC
  rw [rT fun v hv=>(Ho.mp nd).1 (Ij hv).1,if_neg hk]
  simp
 | p::P,w::vs,i+1,m,nd,h1,h2,hk=>by
  show bindC kindOf ((p,w)::P.zip vs) m x=_
  unfold bindC
  exact rW (i:=i) (Ho.mp nd).2 (by simpa using h1) (by simpa using h2) hk
def start (N:List Str)(vs:List V):St:=vs.map some++Hu (N.length-vs.length) none
def ff (CX:lK)(P:Program)(w:World)(K:Gh)(mg:Str->Option Value)(base:Heap)(N:List Str)(qual:Str)(scope:Scope)(f:Addr)(cd:Value)(A:Around)(outer:List Env)(s:Shared)(H:Hp)(E:XK):Cx where
 prog:=P
 w:=w
 K:=K
 mg:=mg
 base:=base
 A:=A.deeper (envOfC qual scope s.heap.objs.size f cd)
 N:=N
 dJ:=s
 kq:=H
 env:=envOfC qual scope s.heap.objs.size f cd
 outer:=outer
 stack:=envOfC qual scope s.heap.objs.size f cd::outer
 ex:=[]
 calm:=true
 fn:=fun _=>true
 pn:=[]
 xe:=fun e s'=>wpAny (model P w) (A.deeper (envOfC qual scope s.heap.objs.size f cd)) (leaving (envOfC qual scope s.heap.objs.size f cd) e) (fun _ s''=>CX outer H s E e s'') (fun e' s''=>CX outer H s E e' s'') s'
theorem tS {sc:Scope}{n:Nat}{x:Str}(h:sc.names.lookup x=some .cell):∃c,(cellsFrom n sc.names []).lookup x=some c:=by
 have q:=PySem.W.cellsFrom_some sc.names n [] (.inl h)
 exact Option.isSome_iff_exists.mp q
theorem yw {CX:lK}{P:Program}{w:World}{K:Gh}{mg:Str->Option Value}{base:Heap}{N ps:List Str}{qual:Str}{scope:Scope}{f:Addr}{cd:Value}{A:Around}{outer:List Env}{s s1:Shared}{H:Hp}{E:XK}{us:List Value}{vs:List V}
  (S:aR N ps scope) (hd:A.handled=none) (e0:oF P w K mg base A outer s H) (hl:vs.length=ps.length) (r:Vals vs us)
  (x:InCallC s s.heap.objs.size (bindL (envOfC qual scope s.heap.objs.size f cd).kindOf (ps.zip us) fun _=>none) (cellsFrom (s.heap.objs.size+1) scope.names []) (bindC (envOfC qual scope s.heap.objs.size f cd).kindOf (ps.zip us) fun _=>none) s1) :
  Inv (ff CX P w K mg base N qual scope f cd A outer s H E) [] (start N vs) H s1:=by
 have hpl:ps.length<=N.length:=by have:=congrArg Hb S.pre;rw [G9] at this;omega
 obtain⟨h1,tk,rfl,hk⟩:=x.done
 have noA:∀b:Addr,b∉(ff CX P w K mg base N qual scope f cd A outer s H E).ex:=fun b z=>absurd (show b∈([]:List Addr) from z) (by simp)
 refine⟨⟨e0.mod,S.kind,rfl,rfl,Gj _,fun y z c h1 h2=>?_,fun y hy=>?_,fun y c _ h=>?_,fun _=>hd,Around.frames_deeper e0.frames,.inr ⟨rfl,rfl⟩,fun b z=>absurd z (noA b),e0.bs,e0.lI,fun b _ _=>noA b,fun b z=>absurd z (noA b),e0.gC,e0.nR⟩,
  rfl,e0.bare,Un.kept hk,⟨_,x.toInCall.ns,fun i y v h1 h2 h3=>?_⟩,fun y c h=>⟨_,x.cell y c h⟩,e0.aL.fresh (Gj _),fun y c h=>?_,fun p hp=>absurd (show p∈([]:List (Addr×Obj)) from hp) (by simp),e0.aL.kept hk,?_⟩
 ·exact name_of_addr x.apart (PySem.mem_of_lookup h1) (PySem.mem_of_lookup h2)
 ·have hy:scope.names.lookup y=some .cell\/scope.names.lookup y=some .free:=hy
  rcases hy with hy | hy
  ·exact tS hy
  ·exact absurd rfl (S.Dn _ (PySem.mem_of_lookup hy))
 ·exact GZ (x.above y c (PySem.mem_of_lookup h))
 ·have hi:i<vs.length:=by
   unfold start at h2
   by_cases hi:i<vs.length
   ·exact hi
   ·rw [Ik (by simpa using hi)] at h2
    rw [IP] at h2
    split at h2 <;> cases h2
  have ha:vs[i]?=some v:=by
   unfold start at h2
   rw [Hv (by simpa using hi),Gz] at h2
   cases e:vs[i]? with
   | none=>rw [e] at h2;cases h2
   | some a=>rw [e] at h2;cases h2;rfl
  obtain⟨u,hu,rv⟩:=r.get ha
  have hp:ps[i]?=some y:=by
   rw [<-S.pre,List.getElem?_take_of_lt (by omega)];exact h1
  have ndP:ps.Nodup:=by rw [<-S.pre];exact S.nd.sublist (List.take_sublist _ _)
  refine⟨u,rv,?_⟩
  rcases S.par y (GB hp) with k | k
  ·exact .inl ⟨k,rV ndP hp hu k⟩
  ·obtain⟨c,e⟩:=tS (n:=s.heap.objs.size+1) k
   refine .inr ⟨.inl k,c,e,?_⟩
   have q:=x.cell y c e
   rw [rW ndP hp hu (by show scope.names.lookup y≠_;rw [k];decide)] at q
   exact q
 ·exact e0.aL.fresh (GZ (x.above y c (PySem.mem_of_lookup h)))
 ·unfold start
  show _=N.length
  rw [Gq,Gi,HR]
  omega
theorem xi {CX:lK}{P:Program}{w:World}{K:Gh}{mg:Str->Option Value}{base:Heap}{k:Nat}{f:Addr}{name qual:Str}{params:Arguments}{body:List Stmt}{scope:Scope}{dV kV doc pm cdv ct oc:Value}{an od:Option Addr}
  {osl:Array (Option Value)} {N ps:List Str} {sp:Sp} (lk:K.lookup f=some ⟨oc,od,.func (G5 name qual params body scope dV kV doc pm an cdv ct),osl⟩) (hcd:HC K cdv qual=true) (S:aR N ps scope)
  (len:∀vs H Q E,sp vs H Q E->vs.length=ps.length)
  (hbody:∀(A:Around) (outer:List Env) (s:Shared) (H:Hp) (vs:List V) (Q:VK) (E:XK),de k (A.deeper (envOfC qual scope s.heap.objs.size f cdv))->sp vs H Q E ->
   ∃t,fX (ff CX P w K mg base N qual scope f cdv A outer s H E) body t/\t { nx:=fun _ H'=>Q .aZ H',rt:=Q } (start N vs) H) :
  bA P w K mg base CX (k+1) f (G5 name qual params body scope dV kV doc pm an cdv ct) ps sp:=by
 refine⟨len,fun A outer s H args us vs Q E hr e0 hb r hsp=>?_⟩
 have hl:=len _ _ _ _ hsp
 have KX:K.In s.heap:=e0.mod.jE.keeps fun b o e=>(e0.bs b o e).1
 have lim:s.heap.NoLimit:=e0.mod.nolimit.keeps fun b o e=>(e0.bs b o e).1
 have hkind:∀y∈ps.zip us,scope.names.lookup y.1=some .local\/(scope.names.lookup y.1=some .cell/\((cellsFrom (s.heap.objs.size+1) scope.names []).lookup y.1).isSome=true):=fun ⟨n,v⟩ hy=>by
  rcases S.par n (Ij hy).1 with q | q
  ·exact .inl q
  ·exact .inr ⟨q,PySem.W.cellsFrom_some _ _ _ (.inl q)⟩
 refine codeAny_call_function hr.depth (KX _ _ lk) rfl S.co S.gen rfl (PySem.W.codeRec_of KX hcd) (hb _ _ _ _ ?_)
 refine wpAny_newFunctionEnv_cells S.kind hkind fun env he s1 x=>?_
 subst he
 refine⟨lim.keeps x.toInCall.keep,codeAny_func ?_⟩
 obtain⟨t,ht,hq⟩:=hbody A outer s H vs Q E (hr.deeper _) hsp
 have I:Inv (ff CX P w K mg base N qual scope f cdv A outer s H E) [] (start N vs) H s1:=yw S hr.hd e0 hl r x
 refine IY (ht [] s1 (start N vs) H _ I hq) (fun fl s' hs=>?_) fun e s' hs=>hs
 have fin:∀{σ':St} {H':Hp} {v:V} {u:Value},Inv (ff CX P w K mg base N qual scope f cdv A outer s H E) [] σ' H' s'->RelV v u->Q v H'->CE outer P w H s Q u s' :=
  fun {σ' H' v u} J rv q=>⟨v,H',J.os,J.bare,J.base,J.aL,rv,q⟩
 cases fl with
 | ret u =>
  obtain⟨v,σ',H',J,rv,q⟩:=hs
  exact fin J rv q
 | next =>
  obtain⟨σ',H',J,q⟩:=hs
  exact fin (v:=V.aZ) (u:=Value.none) J rfl q
 | brk =>
  obtain⟨_,_,_,q⟩:=hs
  exact False.elim q
 | cont =>
  obtain⟨_,_,_,q⟩:=hs
  exact False.elim q
section
variable {X:Cx}{x:Str}{p pos:Pos}{e:Expr}{es:List Expr}{t:TA}{id T:String}{r:List V->Hp->VK->Prop}
def Dp (r:List V->Hp->VK->Prop)(t:TA):TE:=fun Gf H Q=>t Gf H fun vs H1=>r vs H1 Q
theorem aT (hc:dW X (.builtin id) r) (hg:Gl X x) (hm:X.mg x=none) (hv:bootBuiltins x=some (.builtin id)) (ha:PA X (e::es) t) (hn:x ≠ "__name__" := by decide) (hdb:(x == ("__debug__" : Str))=false:=by decide)
  (he:starEach (e::es) X.env=(false,eval e X.env)::starEach es X.env:=by rfl) (hpl:(backTo pos (starEach es X.env)).any (·.1)=false:=by rfl):PE X (.Call (.Name x p) (e::es) [] pos) (Dp r t):=by
 intro pins s Gf H Q I h
 refine Jq (j5 I hg hm hv ?_ hn hdb)
 exact PyProof.Rows.callWith_builtin1 (bB (ha pos pins s Gf H _ I h) fun us s1 ⟨vs,H1,I1,r1,q1⟩=>hc pins s1 Gf H1 vs us Q I1 r1 q1) he hpl
theorem bE (hc:dW X (.type T) r) (hg:Gl X x) (hm:X.mg x=none) (hv:bootBuiltins x=some (.type T)) (ha:PA X (e::es) t) (hn:x ≠ "__name__" := by decide) (hdb:(x == ("__debug__" : Str))=false:=by decide)
  (he:starEach (e::es) X.env=(false,eval e X.env)::starEach es X.env:=by rfl) (hpl:(backTo pos (starEach es X.env)).any (·.1)=false:=by rfl):PE X (.Call (.Name x p) (e::es) [] pos) (Dp r t):=by
 intro pins s Gf H Q I h
 refine Jq (j5 I hg hm hv ?_ hn hdb)
 exact PyProof.Rows.callWith_type1 (bB (ha pos pins s Gf H _ I h) fun us s1 ⟨vs,H1,I1,r1,q1⟩=>hc pins s1 Gf H1 vs us Q I1 r1 q1) he hpl
theorem xj (hc:dW X (.type T) r) (hg:Gl X x) (hm:X.mg x=none) (hv:bootBuiltins x=some (.type T)) (hn:x ≠ "__name__" := by decide) (hdb:(x == ("__debug__" : Str))=false:=by decide) :
  PE X (.Call (.Name x p) [] [] pos) (Dp r oE):=by
 intro pins s Gf H Q I h
 refine Jq (j5 I hg hm hv ?_ hn hdb)
 exact PyProof.Rows.callWith_type0 (hc pins s Gf H [] [] Q I .nil h)
end
end L2
namespace HT
open PySem PyProof.Rows
section
open PySem.SeqAt
open PySem.AutoSeq1 (wpAny_loadPart')
open PySem.MeetsSeq PySem.MeetsSeq2 PySem.MeetsSeq3
end
section
variable {prog:Program}{w:World}{A:Around}{E:Value->Shared->Prop}{s:Shared}
theorem BZ {t b:Addr}{vs ws:List Value}{Q:Value->Shared->Prop}(ht:IsTup s.heap t vs.toArray)(hb:IsTup s.heap b ws.toArray)(hv:vs≠[])
  (h1:ws=[]->Q (.ref t) s) (h2:ws≠[]->Q (.ref s.heap.objs.size) { s with heap:=s.heap.push { cls:=.type "tuple",data:=.seq (vs++ws).toArray } })
  (hsz:vs.length+ws.length<=sizeLine):wpAny (model prog w) A (binaryOp .Add (.ref t) (.ref b)) Q E s:=by
 obtain⟨⟨cls,dd,data,sl⟩,ho,hc,n,hd⟩:=id ht
 obtain⟨⟨cls2,dd2,data2,sl2⟩,ho2,hc2,n2,hd2⟩:=id hb
 simp only at hc hd hc2 hd2
 subst hc hd hc2 hd2
 have e:vs.toArray++ws.toArray=(vs++ws).toArray:=by simp
 by_cases hw:ws=[]
 ·exact concat_meets ⟨_,ho,rfl⟩ ⟨_,ho2,rfl⟩ noFill_tuple_add seq_tuple_add PySem.F.slot_tuple_add PySem.F.entry_tuple_add (PySem.F.args_tuple_add_2 _ _)
   (tuple_addW1 t b vs.toArray ws.toArray n n2 dd dd2 sl sl2 (by simpa using hv) (by simp [hw])) ⟨ho,ho2,h1 hw⟩
 ·refine concat_meets ⟨_,ho,rfl⟩ ⟨_,ho2,rfl⟩ noFill_tuple_add seq_tuple_add PySem.F.slot_tuple_add PySem.F.entry_tuple_add (PySem.F.args_tuple_add_2 _ _)
   (tuple_addW2 t b vs.toArray ws.toArray n n2 dd dd2 sl sl2 (by simpa using hv) (by simpa using hw) (by rw [GC,GC];exact hsz)) ⟨ho,ho2,?_⟩
  rw [e]
  exact h2 hw
def cm (n d:Nat):Option Int->Nat
 | none=>d
 | some v=>if v<0 then (v+(n:Int)).toNat else min v.toNat n
theorem tT (n d:Nat):cm n d none=d:=rfl
theorem vR (n d k:Nat):cm n d (some (k:Int))=min k n:=by
 show (if (k:Int)<0 then ((k:Int)+(n:Int)).toNat else min (k:Int).toNat n)=min k n
 rw [if_neg (by omega),Hw]
theorem Dq (n d:Nat)(hd:d<=n)(o:Option Int):cm n d o<=n:=by
 cases o with
 | none=>exact hd
 | some v =>
  show (if v<0 then (v+(n:Int)).toNat else min v.toNat n)<=n
  by_cases hv:v<0
  ·rw [if_pos hv];omega
  ·rw [if_neg hv];exact Nat.min_le_right _ _
theorem vS (v:Int)(n d:Nat):(if v<0 then max (v+(n:Int)) 0 else min v (n:Int))=((cm n d (some v):Nat):Int):=by
 show (if v<0 then max (v+(n:Int)) 0 else min v (n:Int))=(((if v<0 then (v+(n:Int)).toNat else min v.toNat n):Nat):Int)
 by_cases hv:v<0
 ·simp only [if_pos hv];omega
 ·simp only [if_neg hv];omega
theorem xk (lo hi:Option Int)(n:Nat):Builtin.Slice.sliceAdjust lo hi 1 (n:Int)=(((cm n 0 lo:Nat):Int),((cm n n hi:Nat):Int)):=by
 have h1:¬((1:Int)<0):=by omega
 unfold Builtin.Slice.sliceAdjust
 simp only [h1,if_false]
 refine Prod.ext ?_ ?_
 ·cases lo with
  | none=>rfl
  | some v=>exact vS v n 0
 ·cases hi with
  | none=>rfl
  | some v=>exact vS v n n
theorem xl (i j:Nat):Builtin.Slice.slicePlaces (i:Int) (j:Int) 1=j-i:=by
 unfold Builtin.Slice.slicePlaces
 have h1:(1:Int) > 0:=by omega
 simp only [h1,if_true,Int.ediv_one]
 split <;> omega
theorem pL {v:Value}{o:Option Int}{Q:Option Int->Shared->Prop}(p:IsPart v o)(h:Q o s):wpAny (model prog w) A (Builtin.Slice.slicePartIndex v) Q E s:=by
 cases p with
 | none=>exact slicePart_none h
 | int i t=>exact slicePart_int h
theorem jh {sl:Addr}{vl vu:Value}{lo hi:Option Int}{n:Nat}{Q:Int×Int×Nat->Shared->Prop}(hs:s.heap.IsSliceOf sl vl vu .none)(pl:IsPart vl lo)(pu:IsPart vu hi)
  (h:Q (((cm n 0 lo:Nat):Int),1,cm n n hi-cm n 0 lo) s):wpAny (model prog w) A (Builtin.Slice.sliceApplied (.ref sl) (pure (n:Int))) Q E s:=by
 obtain⟨os,hos,hcs,hds⟩:=id hs
 unfold Builtin.Slice.sliceApplied Builtin.Slice.sliceFields
 refine IW (IW (Jd hos hds (x:=vl) rfl (IW (Jd hos hds (x:=vu) rfl (IW (Jd hos hds (x:=.none) rfl (IX ?_)))))))
 refine IW (slicePart_none ?_)
 show wpAny _ _ (if ((1:Int) == 0)=true then _ else _) _ _ s
 rw [if_neg (by decide)]
 refine IW (pL pl (IW (pL pu (IW (IX ?_)))))
 show wpAny _ _ (match Builtin.Slice.sliceAdjust lo hi 1 (n:Int) with | (lo,hi)=>pure (lo,(1:Int),Builtin.Slice.slicePlaces lo hi 1)) _ _ s
 rw [xk lo hi n]
 show wpAny _ _ (pure (((cm n 0 lo:Nat):Int),(1:Int),Builtin.Slice.slicePlaces ((cm n 0 lo:Nat):Int) ((cm n n hi:Nat):Int) 1)) _ _ s
 rw [xl]
 exact IX h
theorem Ab (xs:Array Value)(i k:Nat):((G4 k).filterMap fun (m:Nat)=>xs[((i:Int)+(m:Int)*1).toNat]?).toArray=((xs.toList.drop i).take k).toArray:=by
 have e:(fun (m:Nat)=>xs[((i:Int)+(m:Int)*1).toNat]?)=fun m=>xs[i+m]?:=by
  funext m
  have:((i:Int)+(m:Int)*1).toNat=i+m:=by omega
  rw [this]
 rw [e]
 have:=pick_run xs i k
 rw [List.filterMap_map] at this
 have e2:((fun x=>xs[x]?) ∘ fun x=>i+x)=fun m=>xs[i+m]?:=rfl
 rw [e2] at this
 rw [this]
theorem nI {t sl:Addr}{items:Array Value}{vl vu:Value}{lo hi:Option Int}{Q:Value->Shared->Prop}(ht:IsTup s.heap t items)(hs:s.heap.IsSliceOf sl vl vu .none)(pl:IsPart vl lo)(pu:IsPart vu hi)
  (hw:¬(cm items.size 0 lo=0/\cm items.size items.size hi=items.size))
  (h:Q (.ref s.heap.objs.size) { s with heap:=s.heap.push { cls:=.type "tuple",data:=.seq ((items.toList.drop (cm items.size 0 lo)).take (cm items.size items.size hi-cm items.size 0 lo)).toArray } })
  (hsz:items.size<=sizeLine):wpAny (model prog w) A (getItem (.ref t) (.ref sl)) Q E s:=by
 have htake:sizeOk (.seq ((items.toList.drop (cm items.size 0 lo)).take (cm items.size items.size hi-cm items.size 0 lo)).toArray):=by
  show ((items.toList.drop (cm items.size 0 lo)).take (cm items.size items.size hi-cm items.size 0 lo)).toArray.size<=sizeLine
  rw [GC,G9,List.length_drop,G7]
  omega
 have hj:cm items.size items.size hi<=items.size:=Dq _ _ (Gj _) hi
 obtain⟨os,hos,hcs,hds⟩:=id hs
 have hTs:s.TypeIs (.ref sl) "slice" := ⟨os,hos,hcs⟩
 unfold getItem
 try with_reducible refine IZ ?_
 first | refine IW (IX ?_) | skip
 refine IW (JC ht.typeIs (by decide) ?_)
 refine IW (wpAny_callSpecial?_slot (name:=Str.ofString "__getitem__") ht.typeIs PyProof.Rows.slot_tuple_getitem
  (Ja PyProof.Rows.slot_tuple_getitem ht.typeIs entry_tuple_getitem ?_ (args_tuple_getitem _ _)))
 show wpAny _ _ (Builtin.Tuple.tupleItemsOf (.ref t) >>= _) _ _ s
 refine IW (tupleItemsOf_ ht ?_)
 refine IW (Jl hTs ?_)
 rw [if_pos (by decide)]
 refine IW (jh hs pl pu ?_)
 have hno:¬((((cm items.size 0 lo:Nat):Int) == 0&&(1:Int) == 1&&(cm items.size items.size hi-cm items.size 0 lo) == items.size)=true):=by
  intro q
  rw [G3,G3] at q
  have q1:((cm items.size 0 lo:Nat):Int)=0:=eq_of_beq q.1.1
  have q2:cm items.size items.size hi-cm items.size 0 lo=items.size:=eq_of_beq q.2
  exact hw ⟨by omega,by omega⟩
 show wpAny _ _ (if (((cm items.size 0 lo:Nat):Int) == 0&&(1:Int) == 1&&(cm items.size items.size hi-cm items.size 0 lo) == items.size)=true then _ else _) _ _ s
 rw [if_neg hno,Ab]
 first
  | exact IW (m:=Builtin.Tuple.tupleExact _) (Jc (IX ⟨_,rfl,IX h⟩) htake)
  | exact IW (m:=Builtin.Tuple.tupleExact _) (Jc (IW (IX (IX ⟨_,rfl,IX h⟩))) htake)
  | exact IW (IW (m:=Builtin.Tuple.tupleExact _) (Jc (IX (IX ⟨_,rfl,IX h⟩)) htake))
  | exact IW (IW (m:=Builtin.Tuple.tupleExact _) (Jc (IX ⟨_,rfl,IX h⟩) htake))
end
end HT
namespace L2
open PySem PySem.Spec PyProof.Rows
abbrev TO:=St->Hp->(Option Int->Hp->Prop)->Prop
def PO (X:Cx)(e:Option Expr)(t:TO):Prop :=
 ∀(pins:List (Addr×Obj)) (s:Shared) (Gf : St) (H:Hp) (Q:Option Int->Hp->Prop),Inv X pins Gf H s->t Gf H Q ->
  wpAny (model X.prog X.w) X.A (evalPart e X.env) (fun u s'=>∃o H',Inv X pins Gf H' s'/\IsPart u o/\Q o H') X.xe s
def B0:TO:=fun _ H Q=>Q none H
inductive Ac (Q:(Option Int->Hp->Prop)) (x:V) (H1:Hp):Prop
 | mk (i:_) (_:x=.int i) (_:Q (some i) H1)
def Ex (t:TE):TO:=fun Gf H Q=>t Gf H fun x H1=>Ac Q x H1
theorem intsAre_of {ns:List Int}:∀{us:List Value},Vals (ns.map V.int) us->IntsAre us ns:=by
 induction ns with
 | nil=>intro us r;rw [Il] at r;cases r;exact .nil
 | cons n ns ih =>
  intro us r
  rw [GK] at r
  cases r with
  | cons r1 r2 =>
   obtain⟨t,e⟩:=r1
   subst e
   exact .cons n t (ih r2)
section
variable {X:Cx}{e:Expr}{te:TE}{lo hi:Option Expr}{tl th:TO}{pos p2:Pos}
theorem m7:PO X none B0:=by
 intro pins s Gf H Q I h
 rw [evalPart_none]
 exact IX ⟨none,H,I,.none,h⟩
theorem m8 (h:PE X e te):PO X (some e) (Ex te):=by
 intro pins s Gf H Q I hw
 rw [evalPart_some]
 refine bB (h pins s Gf H _ I hw) fun u s1 ⟨x,H1,I1,r1,q1⟩=>?_
 obtain⟨i,rfl,q⟩:=q1
 obtain⟨t,rfl⟩:=r1
 exact⟨some i,H1,I1,.int i t,q⟩
def Dr (X:Cx)(r:V->Option Int->Option Int->Hp->VK->Prop):Prop :=
 ∀(pins:List (Addr×Obj)) (s:Shared) (Gf : St) (H:Hp) (x:V) (v vl vu:Value) (lo hi:Option Int) (sl:Addr) (Q:VK),Inv X pins Gf H s->RelV x v->s.heap.IsSliceOf sl vl vu .none->IsPart vl lo->IsPart vu hi->r x lo hi H Q ->
  ∃T id,typeLookup (.type T) "__getitem__" = pure (some (.builtin id))/\s.TypeIs v T/\wpAny (model X.prog X.w) X.A (getItem v (.ref sl)) (EP X pins Gf Q) X.xe s
def FR (r:V->Option Int->Option Int->Hp->VK->Prop)(te:TE)(tl th:TO):TE:=fun Gf H Q=>te Gf H fun x H1=>tl Gf H1 fun l H2=>th Gf H2 fun u H3=>r x l u H3 Q
theorem ky {r:V->Option Int->Option Int->Hp->VK->Prop}(hr:Dr X r)(he:PE X e te)(hl:PO X lo tl)(hu:PO X hi th):PE X (.Subscript e (.Slice lo hi none p2) pos) (FR r te tl th):=by
 intro pins s Gf H Q I h
 refine Subscript_ (bB (he pins s Gf H _ I h) fun v s1 ⟨x,H1,I1,r1,q1⟩=>?_)
 refine wpAny_Slice (bB (hl pins s1 Gf H1 _ I1 q1) fun vl s2 ⟨l,H2,I2,pl,q2⟩=>bB (hu pins s2 Gf H2 _ I2 q2) fun vu s3 ⟨u,H3,I3,pu,q3⟩=>?_)
 rw [evalPart_none]
 refine IX ?_
 have I4:Inv X pins Gf H3 { s3 with heap:=s3.heap.push { cls:=.type "slice",data:=.fields #[vl,vu,.none] } }:=I3.kept (t':=s3.toks) fun b ob q=>Gp _ q
 obtain⟨T,id,hT,ht,hg⟩:=hr pins { s3 with heap:=s3.heap.push { cls:=.type "slice",data:=.fields #[vl,vu,.none] } } Gf H3 x v vl vu l u s3.heap.objs.size Q I4 r1 (Heap.IsSliceOf.new ..) pl pu q3
 show wpAny (model X.prog X.w) X.A (subscriptTail e (.Slice lo hi none p2) v (.ref s3.heap.objs.size)) (EP X pins Gf Q) X.xe { s3 with heap:=s3.heap.push { cls:=.type "slice",data:=.fields #[vl,vu,.none] } }
 exact tail_any (ops:=[.ref s3.heap.objs.size,v]) ht hT hg (by with_unfolding_all rfl)
def ij (xs:List V)(lo hi:Option Int):List V:=(xs.drop (HT.cm xs.length 0 lo)).take (HT.cm xs.length xs.length hi-HT.cm xs.length 0 lo)
theorem vd (xs:List V)(lo hi:Option Int):(ij xs lo hi).length<=xs.length:=by
 unfold ij
 rw [G9,List.length_drop]
 omega
inductive Fq (K:Gh) (x:V) (lo:Option Int) (hi:Option Int) (H:Hp) (Q:VK):Prop
 | mk (a xs:_) (_:x=.ref a) (_:av K H a xs) (_:¬(HT.cm xs.length 0 lo=0/\HT.cm xs.length xs.length hi=xs.length)) (_:∀p,H p=none->Q (.ref p) (upd H p (.tup (ij xs lo hi))))
theorem Ds:Dr X (Fq X.K):=by
 intro pins s Gf H x v vl vu lo hi sl Q I rx hs pl pu h
 obtain⟨a,xs,rfl,hx,hw,q⟩:=h
 cases rx
 obtain⟨its,r,ht,hz⟩:=I.tuple hx
 have hlen:its.toArray.size=xs.length:=by rw [GC];exact r.length.symm
 refine⟨"tuple",_,PyProof.Rows.slot_tuple_getitem.lookup,ht.typeIs,?_⟩
 refine HT.nI ht hs pl pu (by rw [hlen];exact hw) ?_ (by rw [hlen];exact hz)
 rw [hlen]
 refine⟨.ref s.heap.objs.size,_,I.laid (t':=s.toks) (o:=.tup (ij xs lo hi)) (fun b ob q=>Gp _ q) (Gj _) ?_,rfl,q _ (I.aL.fresh (Gj _))⟩
 exact⟨Gr (vd xs lo hi) hz,_,(r.drop (HT.cm xs.length 0 lo)).take (HT.cm xs.length xs.length hi-HT.cm xs.length 0 lo),⟨_,Gu _ rfl,rfl,_,rfl,rfl⟩⟩
theorem Vals.qM {xs:List V}{us:List Value}(r:Vals xs us):us=[]↔xs=[]:=by
 cases r with
 | nil=>simp
 | cons _ _=>simp
end
def pM (n:Nat)(i:Int):Option Nat:=if 0<=i then (if i<n then some i.toNat else none) else if -(n:Int)<=i then some (i+n).toNat else none
def fq {α : Type}(xs:List α)(i:Int):Option α:=(pM xs.length i).bind fun j=>xs[j]?
theorem vT {n:Nat}{i:Int}{j:Nat}(h:pM n i=some j):seqIndex? i n=some j/\j<n/\-(n:Int)<=i/\i<n:=by
 unfold pM at h
 by_cases h0:0<=i
 ·rw [if_pos h0] at h
  by_cases h1:i<n
  ·rw [if_pos h1] at h
   have e:i.toNat=j:=Gy.inj h
   exact⟨by rw [seqIndex_of h0 h1,e],by omega,by omega,h1⟩
  ·rw [if_neg h1] at h;cases h
 ·rw [if_neg h0] at h
  by_cases h1:-(n:Int)<=i
  ·rw [if_pos h1] at h
   have e:(i+n).toNat=j:=Gy.inj h
   exact⟨by rw [seqIndex_neg (by omega) h1,e],by omega,h1,by omega⟩
  ·rw [if_neg h1] at h;cases h
theorem qN {α : Type}{xs:List α}{i:Int}{v:α}(h:fq xs i=some v):∃j,seqIndex? i xs.length=some j/\xs[j]?=some v/\j<xs.length/\-(xs.length:Int)<=i/\i<xs.length:=by
 unfold fq at h
 cases e:pM xs.length i with
 | none=>rw [e] at h;cases h
 | some j =>
  rw [e] at h
  obtain⟨h1,h2,h3,h4⟩:=vT e
  exact⟨j,h1,h,h2,h3,h4⟩
theorem bS {α : Type}{xs:List α}{j:Nat}{v:α}(h:xs[j]?=some v):fq xs (j:Int)=some v:=by
 have hj:j<xs.length:=(GH.mp h).1
 have e:pM xs.length (j:Int)=some j:=by
  unfold pM
  rw [if_pos (by omega),if_pos (by omega)];simp
 unfold fq;rw [e];exact h
def vU (b:Expr):Prop:=∀o i,subscripted b false o i=operate [o,i] (getItem o i)
def yx (X:Cx)(r:R2):Prop :=
 ∀(value slice:Expr) (pins:List (Addr×Obj)) (s:Shared) (Gf : St) (H:Hp) (x y:V) (v u:Value) (Q:VK),Inv X pins Gf H s->RelV x v->RelV y u->r x y H Q ->
  subscripted slice false v u=operate [v,u] (getItem v u)->wpAny (model X.prog X.w) X.A (subscriptTail value slice v u) (EP X pins Gf Q) X.xe s
def Dt (X:Cx)(id:String)(r:V->List V->Hp->VK->Prop):Prop :=
 ∀(pins:List (Addr×Obj)) (s:Shared) (Gf : St) (H:Hp) (x:V) (xs:List V) (v:Value) (us:List Value) (Q:VK),Inv X pins Gf H s->RelV x v->Vals xs us->r x xs H Q ->
  wpAny (model X.prog X.w) X.A (call (.builtin id) (v::us)) (EP X pins Gf Q) X.xe s
section
variable {X:Cx}{a b:Expr}{ta tb:TE}{pos:Pos}
theorem Ey {r:R2}(hr:yx X r)(ha:PE X a ta)(hb:PE X b tb)(hs:vU b):PE X (.Subscript a b pos) (yk r ta tb):=by
 intro pins s Gf H Q I h
 exact Subscript_ (zW ha hb I h fun v u s2 x y H2 I2 rx ry q=>hr a b pins s2 Gf H2 x y v u Q I2 rx ry q (hs _ _))
inductive Fs (K:Gh) (x:V) (y:V) (H:Hp) (Q:VK):Prop
 | mk (p xs i v:_) (_:x=.ref p) (_:y=.int i) (_:aO K H p xs) (_:fq xs i=some v) (_:Q v H)
inductive Ft (K:Gh) (x:V) (y:V) (H:Hp) (Q:VK):Prop
 | mk (p xs i v:_) (_:x=.ref p) (_:y=.int i) (_:av K H p xs) (_:fq xs i=some v) (_:Q v H)
inductive Fu  (x:V) (y:V) (H:Hp) (Q:VK):Prop
 | mk (z i c:_) (_:x=.str z) (_:y=.int i) (_:z.length<=sizeLine) (_:fq z.cps.toList i=some c) (_:Q (.str ⟨#[c]⟩) H)
theorem cg:yx X (Fs X.K):=by
 intro value slice pins s Gf H x y v u Q I rx ry h hs
 obtain⟨p,xs,i,z,rfl,rfl,hq,he,q⟩:=h
 cases rx
 obtain⟨t,rfl⟩:=ry
 obtain⟨its,r,pl,hz⟩:=I.list hq
 obtain⟨j,h1,h2,h3,h4,h5⟩:=qN he
 obtain⟨w,ew,rw'⟩:=r.get h2
 have hl:=r.length
 have hn:=iL
 have fin:EP X pins Gf Q w s:=⟨z,H,I,rw',q⟩
 by_cases h0:0<=i
 ·have hj:i.toNat=j:=by
   rw [seqIndex_of h0 h5] at h1
   exact Gy.inj h1
  exact item_listR pl.isList h0 (by omega) (by rw [hj];simpa using ew) fin hs
 ·have hj:(i+(its.toArray.size:Int)).toNat=j:=by
   rw [seqIndex_neg (by omega) h4] at h1
   rw [GC,<-hl]
   exact Gy.inj h1
  exact subscriptTail_builtinR (x:=w) pl.isList.typeIs slot_list_getitem.lookup
   (wpAny_getItem_list_neg (Q:=fun r s'=>r=w/\EP X pins Gf Q r s') pl.isList (by omega) (by rw [GC] <;> omega) (by omega) (by rw [hj];simpa using ew) ⟨rfl,fin⟩) hs
theorem bf:yx X (Ft X.K):=by
 intro value slice pins s Gf H x y v u Q I rx ry h hs
 obtain⟨p,xs,i,z,rfl,rfl,hq,he,q⟩:=h
 cases rx
 obtain⟨t,rfl⟩:=ry
 obtain⟨its,r,pl,hz⟩:=I.tuple hq
 obtain⟨j,h1,h2,h3,h4,h5⟩:=qN he
 obtain⟨w,ew,rw'⟩:=r.get h2
 have hl:=r.length
 have hn:=iL
 have fin:EP X pins Gf Q w s:=⟨z,H,I,rw',q⟩
 exact subscriptTail_builtinR (x:=w) pl.typeIs slot_tuple_getitem.lookup
  (getItem_tuple (j:=j) (Q:=fun r s'=>r=w/\EP X pins Gf Q r s') pl (by omega) (by omega) (by rw [GC,<-hl];exact h1) (by simpa using ew) ⟨rfl,fin⟩) hs
theorem pN:yx X Fu:=by
  intro value slice pins s Gf H x y v u Q I rx ry h hs
  obtain⟨z,i,c,rfl,rfl,hz,he,q⟩:=h
  obtain⟨t,rfl⟩:=rx
  obtain⟨t',rfl⟩:=ry
  obtain⟨j,h1,h2,h3,h4,h5⟩:=qN he
  have hl:z.cps.toList.length=z.length:=by simp [Str.length]
  rw [hl] at h1 h4 h5
  have hn:=iL
  exact tail_any (typeIs_str s z t) slot_str_getitem.lookup (getItem_str (c:=c) (by
    have e1:decide (i < -(2 ^ 63:Int))=false:=decide_eq_false (by omega)
    have e2:decide (i >= 2 ^ 63)=false:=decide_eq_false (by omega)
    rw [e1,e2,Bool.or_false]) (by rw [h1];simpa using h2) ⟨.str ⟨#[c]⟩,H,I.tok _,⟨_,rfl⟩,q⟩) hs
theorem xm (its:List Value)(n j:Nat)(u:Value):Obj.mapSeq (·.setIfInBounds j u) { cls:=.type "list",data:=.seq its.toArray n } = { cls:=.type "list",data:=.seq (its.set j u).toArray n }:=by
 simp [Obj.mapSeq]
theorem Inv.lst {pins:List (Addr×Obj)}{Gf : St}{H:Hp}{s:Shared}{p:Addr}{xs:List V}(I:Inv X pins Gf H s)(h:H p=some (.lst xs)) :
  ∃(its:List Value) (n:Nat),Vals xs its/\s.heap.get? p=some { cls:=.type "list",data:=.seq its.toArray n }/\xs.length<=sizeLine:=by
 obtain⟨z,its,n,r,e⟩:=I.aL p _ h
 exact⟨its,n,r,e,z⟩
theorem Inv.Du {pins:List (Addr×Obj)}{Gf : St}{H:Hp}{s:Shared}{p:Addr}{xs ys:List V}{its its':List Value}{n n':Nat}{f:Obj->Obj}(I:Inv X pins Gf H s)(h:H p=some (.lst xs))
  (ho:s.heap.get? p=some { cls:=.type "list",data:=.seq its.toArray n }) (hf:f { cls:=.type "list",data:=.seq its.toArray n } = { cls:=.type "list",data:=.seq its'.toArray n' }) (r:Vals ys its') (hz:ys.length<=sizeLine) (t:Nat) :
  Inv X pins Gf (upd H p (.lst ys)) { s with heap:=s.heap.update p f,toks:=t }:=by
 have e:(s.heap.update p f).get? p=some { cls:=.type "list",data:=.seq its'.toArray n' }:=by
  rw [Hq f ho (by rw [hf] <;> rfl),hf]
 refine I.write (x:=p) (e:=p) (by rw [h];trivial) (.inl rfl) (fun b u hb q=>(Hg _ _ (Ne.symm hb)).trans q) ⟨_,e⟩ ?_
 exact⟨hz,its',n',r,e⟩
inductive Ez  (o:V) (i:V) (v:V) (H:Hp) (Q:(Hp->Prop)):Prop
 | mk (p xs k j:_) (_:o=.ref p) (_:i=.int k) (_:H p=some (.lst xs)) (_:pM xs.length k=some j) (_:Q (upd H p (.lst (xs.set j v))))
theorem set_list:zR X Ez:=by
 intro pins s Gf H o i v ov iv u Q I ro ri rv h
 obtain⟨p,xs,k,j,rfl,rfl,hp,hj,q⟩:=h
 cases ro
 obtain⟨t,rfl⟩:=ri
 obtain⟨its,n,r,ho,hz⟩:=I.lst hp
 obtain⟨h1,h2,h3,h4⟩:=vT hj
 have hl:=r.length
 have hn:=iL
 have I':Inv X pins Gf (upd H p (.lst (xs.set j v))) { s with heap:=s.heap.update p (Obj.mapSeq (·.setIfInBounds j u)) } :=
  I.Du hp ho (xm its n j u) (r.set rv j) (by rw [Im];exact hz) s.toks
 by_cases h0:0<=k
 ·have hk:k.toNat=j:=by
   rw [seqIndex_of h0 h4] at h1
   exact Gy.inj h1
  exact PySem.W.ki_setAt ho h0 (by omega) (by rw [GC,<-hl];exact h4) (by rw [hk];exact⟨_,I',q⟩)
 ·have hk:(k+(its.toArray.size:Int)).toNat=j:=by
   rw [seqIndex_neg (by omega) h3] at h1
   rw [GC,<-hl]
   exact Gy.inj h1
  exact PySem.W.ki_setBack ho (by omega) (by rw [GC,<-hl];exact h3) (by omega) (by rw [hk];exact⟨_,I',q⟩)
def iE:V->Bool
 | .aZ=>true
 | .bl _=>true
 | .int _=>true
 | .str _=>true
 | _=>false
def rX:V->V->Bool
 | .aZ,.aZ=>true
 | .bl a,.bl b=>a == b
 | .bl a,.int b=>(if a then 1 else 0) == b
 | .int a,.bl b=>a == (if b then 1 else 0)
 | .int a,.int b=>a == b
 | .str a,.str b=>a == b
 | _,_=>false
theorem Dv {A:Around}{s:Shared}{y x:V}{u v:Value}(ry:RelV y u)(rx:RelV x v)(fy:iE y=true)(fx:iE x=true):SeqAt.EqAt A s u v (rX y x):=by
 cases y with
 | aZ =>
  cases ry
  cases x with
  | aZ=>cases rx;exact SeqAt.EqAt.same _
  | bl b=>cases rx;exact SeqAt.EqAt.none_bool b
  | int b=>obtain⟨t,rfl⟩:=rx;exact SeqAt.EqAt.none_int b t
  | str b=>obtain⟨t,rfl⟩:=rx;exact SeqAt.EqAt.none_str b t
  | _=>exact absurd (show false=true from fx) GJ
 | bl a =>
  cases ry
  cases x with
  | aZ=>cases rx;exact SeqAt.EqAt.bool_none a
  | bl b=>cases rx;exact SeqAt.EqAt.bool_bool a b
  | int b=>obtain⟨t,rfl⟩:=rx;exact SeqAt.EqAt.bool_int a b t
  | str b=>obtain⟨t,rfl⟩:=rx;exact SeqAt.EqAt.bool_str a b t
  | _=>exact absurd (show false=true from fx) GJ
 | int a =>
  obtain⟨t',rfl⟩:=ry
  cases x with
  | aZ=>cases rx;exact SeqAt.EqAt.int_none a t'
  | bl b=>cases rx;exact SeqAt.EqAt.int_bool a t' b
  | int b=>obtain⟨t,rfl⟩:=rx;exact SeqAt.EqAt.int_int a t' b t
  | str b=>obtain⟨t,rfl⟩:=rx;exact SeqAt.EqAt.int_str a t' b t
  | _=>exact absurd (show false=true from fx) GJ
 | str a =>
  obtain⟨t',rfl⟩:=ry
  cases x with
  | aZ=>cases rx;exact SeqAt.EqAt.str_none a t'
  | bl b=>cases rx;exact SeqAt.EqAt.str_bool a t' b
  | int b=>obtain⟨t,rfl⟩:=rx;exact SeqAt.EqAt.str_int a t' b t
  | str b=>obtain⟨t,rfl⟩:=rx;exact SeqAt.EqAt.str_str a t' b t
  | _=>exact absurd (show false=true from fx) GJ
 | _=>exact absurd (show false=true from fy) GJ
def ji (x:V)(u:Value):Bool:=match u with
 | .none=>rX .aZ x
 | .bool b=>rX (.bl b) x
 | .int i _=>rX (.int i) x
 | .str z _=>rX (.str z) x
 | _=>false
theorem yy {x y:V}{u:Value}(r:RelV y u)(f:iE y=true):ji x u=rX y x:=by
 cases y with
 | aZ=>cases r;rfl
 | bl b=>cases r;rfl
 | int i=>obtain⟨t,rfl⟩:=r;rfl
 | str z=>obtain⟨t,rfl⟩:=r;rfl
 | _=>exact absurd (show false=true from f) GJ
theorem j8 {x:V}:∀{xs:List V} {us:List Value},Vals xs us->xs.all iE=true->us.any (ji x)=xs.any fun y=>rX y x
 | _,_,.nil,_=>rfl
 | y::xs,u::us,.cons r t,f=>by
  rw [List.all_cons,G3] at f
  rw [HH,HH,yy r f.1,j8 t f.2]
theorem jj {A:Around}{s:Shared}{x:V}{v:Value}(rx:RelV x v)(fx:iE x=true):∀{xs:List V} {us:List Value},Vals xs us->xs.all iE=true->∀u∈us,SeqAt.EqAt A s u v (ji x u)
 | _,_,.nil,_=>fun u hu=>by cases hu
 | y::xs,u::us,.cons r t,f=>fun u' hu=>by
  rw [List.all_cons,G3] at f
  rcases Gn.mp hu with rfl | hu
  ·rw [yy r f.1];exact Dv r rx f.1 fx
  ·exact jj rx fx t f.2 u' hu
def lL (x:V)(xs:List V):Bool:=xs.any fun y=>rX y x
inductive ES (K:Gh) (neg:Bool) (x:V) (y:V) (H:Hp) (Q:VK):Prop
 | mk (p xs:_) (_:y=.ref p) (_:(aO K H p xs\/av K H p xs)) (_:iE x=true) (_:xs.all iE=true) (_:Q (.bl (if neg then !lL x xs else lL x xs)) H)
theorem jG:eG X (compareOp .In) (ES X.K false):=by
 intro pins s Gf H x y v u Q I rx ry h
 obtain⟨p,xs,rfl,hq,fx,fs,q⟩:=h
 cases ry
 rcases hq with hq | hq
 ·obtain⟨its,r,pl,hz⟩:=I.list hq
  refine SeqAt.in_listAt (ji x) pl.isList (fun w hw=>jj rx fx r fs w (by simpa using hw)) ⟨.bl _,H,I,rfl,?_⟩
  rw [show its.toArray.any (ji x)=its.any (ji x) by simp,j8 r fs]
  exact q
 ·obtain⟨its,r,pl,hz⟩:=I.tuple hq
  refine SeqAt.in_tupleAt (ji x) pl (fun w hw=>jj rx fx r fs w (by simpa using hw)) ⟨.bl _,H,I,rfl,?_⟩
  rw [show its.toArray.any (ji x)=its.any (ji x) by simp,j8 r fs]
  exact q
theorem lY:eG X (compareOp .NotIn) (ES X.K true):=by
 intro pins s Gf H x y v u Q I rx ry h
 obtain⟨p,xs,rfl,hq,fx,fs,q⟩:=h
 cases ry
 rcases hq with hq | hq
 ·obtain⟨its,r,pl,hz⟩:=I.list hq
  refine SeqAt.notIn_listAt (ji x) pl.isList (fun w hw=>jj rx fx r fs w (by simpa using hw)) ⟨.bl _,H,I,rfl,?_⟩
  rw [show its.toArray.any (ji x)=its.any (ji x) by simp,j8 r fs]
  exact q
 ·obtain⟨its,r,pl,hz⟩:=I.tuple hq
  refine SeqAt.notIn_tupleAt (ji x) pl (fun w hw=>jj rx fx r fs w (by simpa using hw)) ⟨.bl _,H,I,rfl,?_⟩
  rw [show its.toArray.any (ji x)=its.any (ji x) by simp,j8 r fs]
  exact q
theorem aU:dW X (.builtin "len") (fun xs H Q=>∃p ys,xs=[.ref p]/\(aO X.K H p ys\/av X.K H p ys)/\Q (.int ys.length) H):=by
 intro pins s Gf H xs us Q I r h
 obtain⟨p,ys,rfl,hq,q⟩:=h
 obtain⟨u,rfl,rx⟩:=vals1 r
 cases rx
 have hn:=iL
 rcases hq with hq | hq
 ·obtain⟨its,r',pl,hz⟩:=I.list hq
  have hlen:=r'.length
  exact Calls.call_len_list pl.isList (by simp only [GC] <;> omega) ⟨.int ys.length,H,I.tok _,⟨s.toks+1,by rw [GC,hlen]⟩,q⟩
 ·obtain⟨its,r',pl,hz⟩:=I.tuple hq
  have hlen:=r'.length
  exact len_tuple pl (by simp only [GC] <;> omega) ⟨.int ys.length,H,I.tok _,⟨s.toks+1,by rw [GC,hlen]⟩,q⟩
theorem lZ:dW X (.type "list") (fun xs H Q=>∃p ys,xs=[.ref p]/\(aO X.K H p ys\/av X.K H p ys)/\∀l,H l=none->Q (.ref l) (upd H l (.lst ys))):=by
 intro pins s Gf H xs us Q I r h
 obtain⟨p,ys,rfl,hq,q⟩:=h
 obtain⟨u,rfl,rx⟩:=vals1 r
 cases rx
 have fin:∀(its:List Value),Vals ys its->ys.length<=sizeLine->∀(h':Heap) (c':Nat),(∀b o',s.heap.get? b=some o'->h'.get? b=some o') ->
   h'.get? s.heap.objs.size=some { cls:=.type "list",dict:=none,data:=.seq its.toArray c',slots:=#[] }->EP X pins Gf Q (.ref s.heap.objs.size) { s with heap:=h' }:=fun its r' hz h' c' kp e =>
  ⟨.ref s.heap.objs.size,_,I.laid (t':=s.toks) kp (Gj _) (show bM X.prog X.w _ h' _ (.lst ys) from ⟨hz,its,c',r',e⟩),rfl,q _ (I.aL.fresh (Gj _))⟩
 rcases hq with hq | hq
 ·obtain⟨its,r',pl,hz⟩:=I.list hq
  have hlen:=r'.length
  obtain⟨o,ho,hc,n,hd⟩:=pl.isList
  exact call_list_seq p (.inl rfl) ho hc hd (fun h' c' kp e=>fin its r' hz h' c' kp e) (by simp only [GC] <;> omega)
 ·obtain⟨its,r',pl,hz⟩:=I.tuple hq
  have hlen:=r'.length
  obtain⟨o,ho,hc,n,hd⟩:=pl
  exact call_list_seq p (.inr rfl) ho hc hd (fun h' c' kp e=>fin its r' hz h' c' kp e) (by simp only [GC] <;> omega)
theorem bF:dW X (.type "tuple") (fun xs H Q=>∃p ys,xs=[.ref p]/\((aO X.K H p ys/\∀l,H l=none->Q (.ref l) (upd H l (.tup ys)))\/(av X.K H p ys/\Q (.ref p) H))):=by
 intro pins s Gf H xs us Q I r h
 obtain⟨p,ys,rfl,h⟩:=h
 obtain⟨u,rfl,rx⟩:=vals1 r
 cases rx
 rcases h with ⟨hq,q⟩ | ⟨hq,q⟩
 ·obtain⟨its,r',pl,hz⟩:=I.list hq
  have hlen:=r'.length
  refine call_tuple_list pl.isList (fun h' kp=>?_) (by simp only [GC] <;> omega)
  have I1:Inv X pins Gf H { s with heap:=h' }:=I.kept (t':=s.toks) kp
  have I2:Inv X pins Gf (upd H h'.objs.size (.tup ys)) { s with heap:=h'.push { cls:=.type "tuple",data:=.seq its.toArray } } :=
   I1.laid (t':=s.toks) (fun b o e=>Gp _ e) (Gj _) (show bM X.prog X.w _ _ _ (.tup ys) from ⟨hz,its,r',⟨_,Gu _ rfl,rfl,_,rfl,rfl⟩⟩)
  exact⟨.ref h'.objs.size,_,I2,rfl,q _ (I1.aL.fresh (Gj _))⟩
 ·obtain⟨its,r',pl,hz⟩:=I.tuple hq
  exact call_tuple_same pl ⟨.ref p,H,I,rfl,q⟩
def Dw (K:Gh)(T:String)(x:V)(H:Hp):Prop:=match x with
 | .str _=>T = "str"
 | .int _=>T = "int"
 | .ref p=>(T = "list" /\ ∃xs,aO K H p xs)\/(T = "tuple" /\ ∃o,K.lookup p=some o/\o.cls=.type "tuple" /\ o.dict=none) \/
   (T = "dict" /\ ((∃kvs,H p=some (.dK kvs))\/∃kvs,H p=some (.dT kvs)))\/(T = "set" /\ ∃S n,H p=some (.set S n))
 | _=>False
theorem yz {pins:List (Addr×Obj)}{Gf : St}{H:Hp}{s:Shared}{T:String}{x:V}{v:Value}(I:Inv X pins Gf H s)(r:RelV x v)(ty:Dw X.K T x H) :
  s.TypeIs v T/\∀a,v=.ref a->∃ob,s.heap.get? a=some ob/\ob.dict=none:=by
 cases x with
 | str z =>
  obtain⟨t,rfl⟩:=r
  cases (show T = "str" from ty)
  exact⟨typeIs_str s z t,fun _ e=>nomatch e⟩
 | int i =>
  obtain⟨t,rfl⟩:=r
  cases (show T = "int" from ty)
  exact⟨typeIs_int s i t,fun _ e=>nomatch e⟩
 | ref p =>
  cases r
  rcases ty with ⟨rfl,xs,hq⟩ | ⟨rfl,o,hk,hc,hd⟩ | ⟨rfl,hk⟩ | ⟨rfl,S,n,hk⟩
  ·obtain⟨its,_,pl,_⟩:=I.list hq
   refine⟨pl.isList.typeIs,fun a e=>?_⟩
   cases e
   obtain⟨o,n,e,c,hd,_⟩:=pl
   exact⟨o,e,hd⟩
  ·refine⟨⟨o,I.en p o hk,hc⟩,fun a e=>?_⟩
   cases e
   exact⟨o,I.en _ o hk,hd⟩
  ·have z:∃o,s.heap.get? p=some o/\o.ExactDict:=by
    rcases hk with ⟨kvs,hk⟩ | ⟨kvs,hk⟩
    ·obtain⟨_,_,_,_,o,_,_,e,ex,_⟩:=I.aL p _ hk
     exact⟨o,e,ex⟩
    ·obtain⟨_,_,_,_,o,_,_,e,ex,_⟩:=I.aL p _ hk
     exact⟨o,e,ex⟩
   obtain⟨o,e,ex⟩:=z
   refine⟨⟨o,e,ex.1⟩,fun a e2=>?_⟩
   cases e2
   exact⟨o,e,ex.2.1⟩
  ·obtain⟨o,_,_,_,e,ex,_⟩:=I.aL p _ hk
   refine⟨⟨o,e,ex.1⟩,fun a e2=>?_⟩
   cases e2
   exact⟨o,e,ex.2.1⟩
 | _=>exact False.elim ty
def Fv (K:Gh)(T:String)(r:V->List V->Hp->VK->Prop)(to:TE):TE:=fun Gf H Q=>to Gf H fun x H1=>Dw K T x H1/\r x [] H1 Q
def FT (K:Gh)(T:String)(r:V->List V->Hp->VK->Prop)(to:TE)(t:TA):TE:=fun Gf H Q=>to Gf H fun x H1=>Dw K T x H1/\t Gf H1 fun xs H2=>r x xs H2 Q
variable {o e:Expr}{es:List Expr}{to:TE}{t:TA}{name:Str}{apos cpos:Pos}{T id:String}{r:V->List V->Hp->VK->Prop}
theorem Dx (pa:PlainAttrs T) (slot:Slot T name id) (hty:typeOf (.builtin id)=pure (.type "method_descriptor")) (hm:Dt X id r) (ho:PE X o to)
  (hbase:attributeBase o name X.env (eval o X.env)=eval o X.env:=by rfl) (hline:(apos.endLine == cpos.line)=true:=by rfl):PE X (.Call (.Attribute o name apos) [] [] cpos) (Fv X.K T r to):=by
 intro pins s Gf H Q I h
 refine wpAny_Call_method0_late hbase hline (bB (ho pins s Gf H _ I h) fun v s1 ⟨x,H1,I1,r1,ty,q1⟩=>?_)
 obtain⟨h1,h2⟩:=yz I1 r1 ty
 exact⟨T,id,pa,slot,hty,h1,h2,Calls.callWith_builtin rfl (PySem.evalArgs_none (hm pins s1 Gf H1 x [] v [] Q I1 r1 .nil q1))⟩
theorem df (pa:PlainAttrs T) (slot:Slot T name id) (hty:typeOf (.builtin id)=pure (.type "method_descriptor")) (hm:Dt X id r) (ho:PE X o to) (ha:PA X (e::es) t)
  (hbase:attributeBase o name X.env (eval o X.env)=eval o X.env:=by rfl)
  (hfew:((backTo cpos (starEach (e::es) X.env)).all (fun x=>!x.1)&&(backToKw cpos (keywordEach [] X.env)).all (fun x=>x.1.isSome)
   && decide ((e::es).length+([]:List Keyword).length+(if ([]:List Keyword).isEmpty then 0 else 1)<30))=true:=by rfl)
  (hline:(apos.endLine == cpos.line)=true:=by rfl) (hs:starEach (e::es) X.env=(false,eval e X.env)::starEach es X.env:=by rfl) (hplain:(backTo cpos (starEach es X.env)).any (·.1)=false:=by rfl) :
  PE X (.Call (.Attribute o name apos) (e::es) [] cpos) (FT X.K T r to t):=by
 intro pins s Gf H Q I h
 refine wpAny_Call_method_late hbase hfew hline rfl (bB (ho pins s Gf H _ I h) fun v s1 ⟨x,H1,I1,r1,ty,q1⟩=>?_)
 obtain⟨h1,h2⟩:=yz I1 r1 ty
 refine⟨T,id,pa,slot,hty,h1,h2,?_⟩
 have hA:=ha cpos pins s1 Gf H1 _ I1 q1
 rw [hs] at hA ⊢
 refine Calls.callWith_builtin (by show (false||(backTo cpos (starEach es X.env)).any (·.1))=false;rw [hplain] <;> rfl) (Calls.evalArgs_plain ?_)
 exact bB hA fun us s2 ⟨vs,H2,I2,r2,q2⟩=>hm pins s2 Gf H2 x vs v us Q I2 r1 r2 q2
end
def vV (X:Cx)(id:String)(r:V->List V->Hp->VK->Prop):Prop :=
 ∀(pins:List (Addr×Obj)) (s:Shared) (Gf : St) (H:Hp) (x:V) (xs:List V) (v:Value) (us:List Value) (Q:VK),Inv X pins Gf H s->RelV x v->Vals xs us->r x xs H Q ->
  wpAny (model X.prog X.w) X.A (call (.builtin id) (v::us)) (EP X pins Gf Q) X.xe s
theorem Vals.one:∀{x:V} {us:List Value},Vals [x] us->∃u,us=[u]/\RelV x u
 | _,_,.cons r .nil=>⟨_,rfl,r⟩
theorem Vals.zero:∀{us:List Value},Vals [] us->us=[]
 | _,.nil=>rfl
theorem Vals.dropLast {xs:List V}{us:List Value}(h:Vals xs us):Vals xs.dropLast us.dropLast:=by
 induction h with
 | nil=>exact .nil
 | cons r t ih =>
  cases t with
  | nil=>exact .nil
  | cons q t'=>exact .cons r ih
theorem xn {α : Type}(l:List α):l.eraseIdx (l.length-1)=l.dropLast:=by
 induction l with
 | nil=>rfl
 | cons a r ih =>
  cases r with
  | nil=>rfl
  | cons b r =>
   have e:(a::b::r).length-1=((b::r).length-1)+1:=by
    have h1:(a::b::r).length=r.length+2:=rfl
    have h2:(b::r).length=r.length+1:=rfl
    omega
   rw [e,List.eraseIdx_cons_succ,ih]
   all_goals rfl
section
variable {X:Cx}{pins:List (Addr×Obj)}{Gf : St}{H:Hp}{s:Shared}{l b:Addr}{xs ys zs:List V}
theorem Inv.Ad {its its':List Value}{n:Nat}{f:Array Value->Array Value}{t':Nat}(I:Inv X pins Gf H s)(hH:H l=some (.lst xs))
  (e:s.heap.get? l=some { cls:=.type "list",data:=.seq its.toArray n }) (hf:f its.toArray=its'.toArray) (hv:Vals ys its') (hz:ys.length<=sizeLine) :
  Inv X pins Gf (upd H l (.lst ys)) { s with heap:=s.heap.update l (Obj.mapSeq f),toks:=t' }:=by
 have q:=PySem.IsL.update e f
 rw [hf] at q
 refine I.write (x:=l) (e:=l) (by rw [hH];exact trivial) (.inl rfl) (fun b' u hb hu=>(Hg s.heap (Obj.mapSeq f) (Ne.symm hb)).trans hu) ⟨_,q⟩ ?_
 exact⟨hz,its',_,hv,q⟩
theorem Inv.fresh (I:Inv X pins Gf H s):H s.heap.objs.size=none:=I.aL.fresh (Gj _)
theorem Inv.tU (I:Inv X pins Gf H s)(hH:H l=some (.lst xs)):xs.length<=sizeLine/\∃(its:List Value) (n:Nat),Vals xs its/\xs.length=its.length/\s.heap.get? l=some { cls:=.type "list",data:=.seq its.toArray n }:=by
 obtain⟨z,its,n,r,e⟩:=I.aL l _ hH
 exact⟨z,its,n,r,r.length,e⟩
theorem Ae {n:Nat}(h:n<=sizeLine):Builtin.List.listTooLong n=false:=by
 unfold Builtin.List.listTooLong
 exact decide_eq_false (by omega)
end
section
variable {X:Cx}
inductive Ca  (x:V) (vs:List V) (H:Hp) (Q:VK):Prop
 | mk (l xs y:_) (_:x=.ref l) (_:vs=[y]) (_:H l=some (.lst xs)) (_:xs.length<sizeLine) (_:Q .aZ (upd H l (.lst (xs++[y]))))
theorem bU:vV X "list.append" Ca:=by
 intro pins s Gf H x vs v us Q I rx rv h
 obtain⟨l,xs,y,rfl,rfl,hH,hz,q⟩:=h
 cases rx
 obtain⟨u,rfl,ru⟩:=rv.one
 obtain⟨z,its,n,r,hl,e⟩:=I.tU hH
 refine call_meets F.slot_list_append ⟨_,e,rfl⟩ F.entry_list_append (F.args_list_append_2 _ _) (PySem.list_append l its.toArray n u (by rw [GC];omega)) ⟨e,?_⟩
 refine⟨.aZ,_,I.Ad (its':=its++[u]) hH e (by simp) (r.append (.cons ru .nil)) ?_,rfl,q⟩
 rw [Gq,List.length_singleton]
 omega
inductive Cb  (x:V) (vs:List V) (H:Hp) (Q:VK):Prop
 | mk (l b xs zs:_) (_:x=.ref l) (_:vs=[.ref b]) (_:H l=some (.lst xs)) (_:H b=some (.lst zs)) (_:xs.length+zs.length<=sizeLine) (_:Q .aZ (upd H l (.lst (xs++zs))))
theorem rY:vV X "list.extend" Cb:=by
 intro pins s Gf H x vs v us Q I rx rv h
 obtain⟨l,b,xs,zs,rfl,rfl,hH,hB,hz,q⟩:=h
 cases rx
 obtain⟨u,rfl,ru⟩:=rv.one
 cases ru
 obtain⟨z,its,n,r,hl,e⟩:=I.tU hH
 obtain⟨z2,its2,n2,r2,hl2,e2⟩:=I.tU hB
 have hsz:its.toArray.size+its2.toArray.size<=sizeLine:=by rw [GC,GC];omega
 have hlong:¬(!its.toArray.isEmpty&&Builtin.List.listTooLong (its.toArray.size+its2.toArray.size))=true:=by
  rw [Ae hsz,Bool.and_false]
  exact GJ
 refine call_meets F.slot_list_extend ⟨_,e,rfl⟩ F.entry_list_extend (F.args_list_extend_2 _ _)
  (AutoSeq1.list_extend_list_list_0 l its.toArray n b its2.toArray n2 hlong (by rw [GC];omega) (by omega)) ⟨e,e2,?_⟩
 refine⟨.aZ,_,I.Ad (its':=its++its2) hH e (by simp) (r.append r2) ?_,rfl,q⟩
 rw [Gq]
 omega
inductive Fw  (x:V) (vs:List V) (H:Hp) (Q:VK):Prop
 | mk (l xs y:_) (_:x=.ref l) (_:vs=[]) (_:H l=some (.lst xs)) (_:xs[xs.length-1]?=some y) (_:Q y (upd H l (.lst xs.dropLast)))
theorem Dy:vV X "list.pop" Fw:=by
 intro pins s Gf H x vs v us Q I rx rv h
 obtain⟨l,xs,y,rfl,rfl,hH,hy,q⟩:=h
 cases rx
 have hus:=rv.zero
 subst hus
 obtain⟨z,its,n,r,hl,e⟩:=I.tU hH
 obtain⟨u,hu,ru⟩:=r.get hy
 have hy':its.toArray[its.toArray.size-1]?=some u:=by
  show its.toArray[its.length-1]?=some u
  rw [<-HS,<-hl]
  exact hu
 refine call_meets F.slot_list_pop ⟨_,e,rfl⟩ F.entry_list_pop (F.args_list_pop_1 _) (MeetsSeq.list_pop_last l its.toArray n u hy' (by rw [GC];omega)) ⟨e,?_⟩
 refine⟨y,_,I.Ad (its':=its.dropLast) hH e ?_ r.dropLast ?_,ru,q⟩
 ·show its.toArray.eraseIdxIfInBounds (its.toArray.size-1)=its.dropLast.toArray
  rw [GC,List.eraseIdxIfInBounds_toArray,xn]
 ·rw [List.length_dropLast]
  omega
end
section
variable {prog:Program}{w:World}{A:Around}{E:Value->Shared->Prop}{s:Shared}
end
section
variable {X:Cx}
end
end L2
namespace ET
open PySem PySem.W PySem.Calls PyProof.Rows
theorem pO {P:Params}{h:Heap}:∀(ns:List Int) (vs:List Value),WellAll P h vs (ns.map WData.int)->IntsAre vs ns:=by
 intro ns
 induction ns with
 | nil =>
  intro vs w
  rw [Il] at w
  cases w
  exact .nil
 | cons n ns ih =>
  intro vs w
  rw [GK] at w
  cases w with
  | cons a b =>
   cases a
   exact .cons _ _ (ih _ b)
theorem yA {l:OpenLaw}{n:Nat}(hn:l.most=some n){P:Params}{h:Heap}{args:List WData}{vals:List Value}
  (hpre:l.row.toRowW.claim.pre args=true) (hwl:WellAll P h vals args) :
  ∃a vs ns,vals=[Value.ref a]/\args=[WData.list (ns.map WData.int)]/\h.get? a=some { cls:=.type "list",data:=.seq vs.toArray }/\IntsAre vs ns/\ns.length<=n:=by
 have hsh:WShape.hasAll [] args [.list .int]=true:=(pre_splitW hpre).1
 have hc:l.pre.holds [] { args:=args }=true:=(pre_splitW hpre).2
 obtain⟨d,r,rfl,h1,h2⟩:=hasAllW_cons hsh
 obtain rfl:=hasAllW_nil h2
 obtain⟨xs,rfl,h3⟩:=hasW_list h1
 obtain⟨ns,rfl⟩:=items_int h3
 have hlen:ns.length<=n:=by
  unfold OpenLaw.pre at hc
  have h4:(WTm.not (.lt (.lit (.int (n:Int))) (.len (.arg 0)))).holds [] { args:=[.list (ns.map .int)] }=true:=by
   have h4:=(holds_andW hc).1
   rw [hn] at h4
   exact h4
  have h5:=condW_of h4 (w_not (w_lt w_lit (w_len_list (w_arg rfl))))
  rw [Gi] at h5
  refine Nat.le_of_not_lt fun q=>?_
  have q':(n:Int)<((ns.length:Nat):Int):=by omega
  first
   | (rw [decide_eq_true q'] at h5;exact absurd h5 (by decide))
   | (simp at h5;omega)
 cases hwl with
 | cons w1 w2 =>
  cases w2
  cases w1 with
  | list ho hall=>exact⟨_,_,ns,rfl,rfl,ho,pO ns _ hall,hlen⟩
theorem yB (l:OpenLaw)(args:List WData):l.row.toRowW.claim.post args (.bool true) args=true :=
 postW_of (r:=l.row.toRowW) (X:=(true == true))
  (show WShape.has [] (.bool true) .bool=true by first | rfl | decide | simp [WShape.has,WShape.arms,WShape.armsAll])
  (show (WTm.eq .res (.lit (.bool true))).value [] { args:=args,res:=some (.bool true),after:=args }=some (.bool (true == true)) from w_eq_bool (w_res rfl) w_lit) rfl
theorem ve {l:OpenLaw}{n:Nat}{q:Program}{loose:List Str}{XP:(Str->Option Value)->Heap->Prop}{YP:World->Heap->Prop}{d:DefRec}
  (hn:l.most=some n) (hdf:d.params.defaults=[])
  (call:∀(w:World) (dJ s₁ : Shared) (mg mb:Str->Option Value) (fa:Addr) (o:Obj) (pm cd doc:Value) (a:Addr) (vs:List Value) (ns:List Int),
   Ground q loose [] XP w dJ mg mb s₁.heap->YP w s₁.heap ->
   s₁.heap.get? fa=some o->o.data=.func (docDef d.name d.params d.body d.scope pm cd doc)->s₁.heap.CodeRec cd d.name->mg d.name=some (.ref fa) ->
   s₁.heap.get? a=some { cls:=.type "list",data:=.seq vs.toArray }->IntsAre vs ns->ns.length<=n->s₁.gens = #[] ->
   codeAny (model l.prog w) callerA (.call (.ref fa) ⟨[.ref a],[]⟩) (fun r s'=>r=.ok (.ret (.bool true))/\OldK s₁.heap s'.heap/\s'.os=s₁.os/\AllBare s'.gens) s₁) :
  WalkO q loose XP YP l.row.toRowW d [] (fun f vs=>PySem.call f vs):=by
 intro w dJ s₁ mg mb G Y fa o pm cd doc dV kV ho hd hcd hD hmg hg args vals as hpre hlay hrd hwl hlo
 obtain rfl:dV=.none:=Dflts.none hD hdf
 obtain rfl:kV=.none:=Dflts.noKw hD
 obtain⟨a,vs,ns,rfl,rfl,hobj,hints,hlen⟩:=yA hn hpre hwl
 refine enter_call (Jh (call w dJ s₁ mg mb fa o pm cd doc a vs ns G Y ho (fd_plain hd) hcd hmg hobj hints hlen hg) fun r s' hq=>?_)
 obtain⟨rfl,h2,h3,h4⟩:=hq
 exact⟨.inl ⟨.bool true,.bool true,[],rfl,fun _=>rfl,.bool true,yB l _,fun _=>⟨Hx.nil,fun _ hm=>(nomatch hm)⟩⟩,h2,h3,h4⟩
section
variable {prog:Program}{w:World}{A:Around}{E:Value->Shared->Prop}{s:Shared}{K:Frag}
def ledger (h:Heap)(L d:Addr):List (Addr×Obj):=(G4 h.objs.size).filterMap fun a=>if a=L\/a=d then none else (h.get? a).map fun o=>(a,o)
end
end ET
namespace L2
open PySem PySem.Spec PyProof.Rows
theorem iN:∀{vs:List Value} {ns:List Int},IntsAre vs ns->Vals (ns.map V.int) vs
 | _,_,.nil=>.nil
 | _,_,.cons n t h=>.cons ⟨t,rfl⟩ (iN h)
def Af (H:Hp):Prop:=∀b,H b=none\/∃o xs,H b=some (.d5 o (.lst xs))
theorem Ag {P:Program}{w:World}{K:Gh}{mg mb:Str->Option Value}{CX:lK}{k:Nat}{fa a:Addr}{fd:FuncData}{x:Str}{sp:Sp}{s₁ : Shared}{vs:List Value}{ns:List Int}
    (KX:K.In s₁.heap) (hns:s₁.heap.Ns mainGlobals mg) (hb:s₁.heap.Ns builtinsNs mb) (hbb:∀x:Str,x ≠ "__name__" -> mb x=bootBuiltins x) (hlim:s₁.heap.NoLimit) (hg:s₁.gens = #[])
    (ha:s₁.heap.get? a=some { cls:=.type "list",data:=.seq vs.toArray }) (hi:IntsAre vs ns) (hl:ns.length<=sizeLine) (hr:de k callerA)
    (F:∀base:Heap,K.In base->base.Ns mainGlobals mg->bA P w K mg base CX k fa fd [x] sp) (hbind:∀(s:Shared) (u:Value),BindsTo s fd ⟨[u],[]⟩ [(x,u)])
    (hsp:∀H:Hp,Af H->aO K H a (ns.map V.int)->sp [.ref a] H (fun v _=>v=.bl true) fun _ _ _=>False)
    (hCX:∀H e s',CX [] H s₁ (fun _ _ _=>False) e s'->False) :
    codeAny (model P w) callerA (.call (.ref fa) ⟨[.ref a],[]⟩) (fun r s'=>r=.ok (.ret (.bool true))/\OldK s₁.heap s'.heap/\s'.os=s₁.os/\AllBare s'.gens) s₁:=by
  have rv:=iN hi
  have lenV:=hi.length
  have core:∀H:Hp,Af H->aO K H a (ns.map V.int)->dn P w H s₁.heap->(∀b,H b≠none->b=a)->(H a≠none->K.lookup a=none) ->
      codeAny (model P w) callerA (.call (.ref fa) ⟨[.ref a],[]⟩) (fun r s'=>r=.ok (.ret (.bool true))/\OldK s₁.heap s'.heap/\s'.os=s₁.os/\AllBare s'.gens) s₁:=by
    intro H hO hS aL hA hK
    have base_of:∀{b:Addr} {o:Obj},s₁.heap.get? b=some o->H b=none->(ko s₁.heap H).get? b=some o:=fun e n=>zN e n
    have noA:∀{b:Addr} {o:Obj} {es:Array DictEntry} {ep:Nat},s₁.heap.get? b=some o->o.data=.dict es ep->H b=none:=fun {b o es ep} e d=>by
      cases q:H b with
      | none=>rfl
      | some u =>
        have e':b=a:=hA b (by rw [q];simp)
        subst e'
        rw [ha] at e;cases e
        have d':Data.seq vs.toArray _=Data.dict es ep:=d
        cases d'
    have nsK:∀{b:Addr} {m:Str->Option Value},s₁.heap.Ns b m->(ko s₁.heap H).Ns b m:=fun {b m} ⟨o,es,ep,e,d,r⟩=>⟨o,es,ep,base_of e (noA e d),d,r⟩
    have hKb:K.In (ko s₁.heap H):=fun b o e=>base_of (KX b o e) (by
      cases q:H b with
      | none=>rfl
      | some u =>
        have e':b=a:=hA b (by rw [q];simp)
        subst e'
        rw [hK (by rw [q];simp)] at e;cases e)
    have hM:Mod K mg (ko s₁.heap H):=⟨hKb,nsK hns,⟨mb,nsK hb,hbb⟩,let ⟨mc,h1,h2⟩:=hlim;⟨mc,nsK h1,h2⟩⟩
    have e0:oF P w K mg (ko s₁.heap H) callerA [] s₁ H:=⟨rfl,hM,fun b o e=>BL e,Nat.le_of_eq (yf _ _),trivial,fun b hb=>absurd (show b∈([]:List Addr) from hb) (by simp),aL,.of_eq hg⟩
    refine Jh ((F _ hKb (nsK hns)).run callerA [] s₁ H ⟨[.ref a],[]⟩ [.ref a] [.ref a] _ _ hr e0 (hbind s₁ (.ref a)) (.cons rfl .nil) (hsp H hO hS)) fun r s' h=>?_
    cases r with
    | error e=>exact (hCX H e s' h).elim
    | ok fl =>
      cases fl with
      | next=>exact False.elim h
      | brk=>exact False.elim h
      | cont=>exact False.elim h
      | ret u =>
        obtain⟨v,H',os,bare,un,hok',r',q⟩:=h
        have q':v=.bl true:=q
        subst q'
        obtain rfl:u=Value.bool true:=r'
        refine⟨rfl,OldK.of_keep fun b o e=>?_,os,bare⟩
        cases q:H b with
        | none=>exact un.keep b o e q (by intro z;exact absurd (show b∈([]:List Addr) from z) (by simp)) (by simp)
        | some u =>
          rcases hO b with z | ⟨ob,xs,z⟩
          . rw [q] at z;cases z
          . have z2:=un.fF b ob _ z
            obtain⟨e1,_⟩:=aL b _ z
            obtain⟨e2,_⟩:=hok' b _ z2
            rw [e] at e1;cases e1
            exact e2
  cases hk:K.lookup a with
  | some o =>
    have e:=KX a o hk
    rw [ha] at e
    cases e
    refine core (fun _=>none) (fun _=>.inl rfl) (.inr ⟨_,vs.toArray,_,hk,rfl,rfl,rfl,by rw [GC,lenV];exact hl,by simpa using rv⟩) (fun b u z=>by have z':(none:Option HO)=some u:=z;cases z') (fun b z=>absurd rfl z) fun z=>absurd rfl z
  | none =>
    refine core (fun b=>if b=a then some (.d5 { cls:=.type "list",data:=.seq vs.toArray } (.lst (ns.map V.int))) else none) (fun b=>?_) (.inl (.inr ⟨{ cls:=.type "list",data:=.seq vs.toArray },if_pos rfl⟩)) (fun b u z=>?_) (fun b z=>?_) fun _=>hk
    . by_cases hb:b=a
      . exact .inr ⟨_,_,if_pos hb⟩
      . exact .inl (if_neg hb)
    . by_cases hb:b=a
      . have z':=(if_pos hb).symm.trans z
        cases z'
        subst hb
        exact⟨ha,by rw [Gi];exact hl,vs,_,rv,ha⟩
      . have z':=(if_neg hb).symm.trans z
        cases z'
    . by_cases hb:b=a
      . exact hb
      . exact absurd (if_neg hb) z
abbrev KOf {K:Gh}{h:Heap}(_:K.In h):Gh:=K
theorem Cc {l:PySem.W.OpenLaw}{n k:Nat}{q:Program}{loose:List Str}{XP:(Str->Option Value)->Heap->Prop}{YP:World->Heap->Prop}{d:DefRec}{K:Params->Gh}{CX:World->lK}{sp:World->Sp}{x:Str}
  (hn:l.most=some n) (hn2:n<=sizeLine) (hdf:d.params.defaults=[]) (hr:de k callerA)
  (hY:∀(w:World) (h:Heap),YP w h->(K w.params).In h)
  (F:∀(w:World) (mg:Str->Option Value) (fa:Addr) (h:Heap),(K w.params).In h->h.Ns mainGlobals mg->mg d.name=some (.ref fa) ->
   ∃fd:FuncData,(∀(s:Shared) (u:Value),BindsTo s fd ⟨[u],[]⟩ [(x,u)]) /\
    ∀base:Heap,(K w.params).In base->base.Ns mainGlobals mg->bA l.prog w (K w.params) mg base (CX w) k fa fd [x] (sp w))
  (hsp:∀(w:World) (H:Hp) (a:Addr) (ns:List Int),ns.length<=n->Af H->aO (K w.params) H a (ns.map V.int)->sp w [.ref a] H (fun v _=>v=.bl true) fun _ _ _=>False)
  (hCX:∀(w:World) (H:Hp) (s:Shared) (e:Value) (s':Shared),CX w [] H s (fun _ _ _=>False) e s'->False) :
  PySem.W.WalkO q loose XP YP l.row.toRowW d [] (fun f vs=>PySem.call f vs):=by
 refine ET.ve hn hdf fun w dJ s₁ mg mb fa o pm cd doc a vs ns G Y ho hd hcd hmg hobj hints hlen hg=>?_
 have KX:=hY w _ Y
 obtain⟨fd,hb,hF⟩:=F w mg fa _ KX G.T.g hmg
 exact Ag KX G.T.g G.T.b G.T.builtins G.T.nolimit hg hobj hints (Gr hlen hn2) hr hF hb (fun H hO hS=>hsp w H a ns hlen hO hS) fun H e s'=>hCX w H s₁ e s'
def inClass (s:Stmt)(j:Nat):Stmt:=match s with
 | .ClassDef _ _ _ body _ _ _ _ _ _ _=>body.getD j (.Pass ⟨0,0,0,0⟩)
 | _=>.Pass ⟨0,0,0,0⟩
def dX (s:Stmt):Arguments:=match s with
 | .FunctionDef _ a _ _ _ _ _ _ _ _=>a
 | _=>{ posonlyargs:=[],args:=[],vararg:=none,kwonlyargs:=[],kw_defaults:=[],kwarg:=none,defaults:=[] }
def dt (s:Stmt):List Stmt:=match s with
 | .FunctionDef _ _ b _ _ _ _ _ _ _=>b
 | _=>[]
def aw (s:Stmt):Scope:=match s with
 | .FunctionDef _ _ _ _ _ _ sc _ _ _=>sc
 | _=>{ kind:=.function,names:=[],isGenerator:=false,isCoroutine:=false }
abbrev bX:lK:=fun _ _ _ _ _ _=>False
abbrev E0:XK:=fun _ _ _=>False
theorem xo {X:Cx}:Passes bX X E0:=fun _ _ _ _ _ _ _ h=>h.elim
structure b0 (K:Gh) (x qual:Str) (st:Stmt) (f:Addr) (fd:FuncData):Prop where
 ex:∃(oc:Value) (od:Option Addr) (kV doc pm:Value) (an:Option Addr) (cdv ct:Value) (osl:Array (Option Value)),
  fd=G5 x qual (dX st) (dt st) (aw st) .none kV doc pm an cdv ct/\K.lookup f=some ⟨oc,od,.func fd,osl⟩/\HC K cdv qual=true
 kp:Hd K (.ref f)=true
section
variable {P:Program}{w:World}{K:Gh}{mg:Str->Option Value}{base:Heap}
theorem b0.ok {x qual:Str}{st:Stmt}{f:Addr}{fd:FuncData}{N ps:List Str}{k:Nat}{sp:Sp}(F:b0 K x qual st f fd)(S:aR N ps (aw st))(len:∀vs H Q E,sp vs H Q E->vs.length=ps.length)
  (hbody:∀(cdv:Value) (A:Around) (outer:List Env) (s:Shared) (H:Hp) (vs:List V) (Q:VK) (E:XK),de k (A.deeper (envOfC qual (aw st) s.heap.objs.size f cdv))->sp vs H Q E ->
   ∃t,fX (ff bX P w K mg base N qual (aw st) f cdv A outer s H E).nS (dt st) t/\t { nx:=fun _ H'=>Q .aZ H',rt:=Q } (start N vs) H):bA P w K mg base bX (k+1) f fd ps sp:=by
 obtain⟨oc,od,kV,doc,pm,an,cdv,ct,osl,rfl,lk,hcd⟩:=F.ex
 refine xi lk hcd S len fun A outer s H vs Q E hr hsp=>?_
 obtain⟨t,h,q⟩:=hbody cdv A outer s H vs Q E hr hsp
 exact⟨t,h.nS,q⟩
theorem b0.binds {x qual:Str}{st:Stmt}{f:Addr}{fd:FuncData}{ps:List Str}(F:b0 K x qual st f fd)
  (h:∀(kV doc pm:Value) (an:Option Addr) (cdv ct:Value) (us:List Value),us.length=ps.length->bindArgs (G5 x qual (dX st) (dt st) (aw st) .none kV doc pm an cdv ct) ⟨us,[]⟩=pure (ps.zip us)):Binds K fd ps []:=by
 obtain⟨oc,od,kV,doc,pm,an,cdv,ct,osl,rfl,lk,hcd⟩:=F.ex
 exact .all (h kV doc pm an cdv ct)
theorem yC {x qual:Str}{st:Stmt}{f:Addr}{oc:Value}{od an:Option Addr}{osl:Array (Option Value)}{kV doc pm cdv ct:Value}(l:K.lookup f=some ⟨oc,od,.func (G5 x qual (dX st) (dt st) (aw st) .none kV doc pm an cdv ct),osl⟩)
  (c:HC K cdv qual=true) (k:Hd K (.ref f)=true):b0 K x qual st f (G5 x qual (dX st) (dt st) (aw st) .none kV doc pm an cdv ct):=⟨⟨oc,od,kV,doc,pm,an,cdv,ct,osl,rfl,l,c⟩,k⟩
end
theorem dM {A:Around}{k:Nat}(hr:de k A):A.units+1<cLine:=HU (Nat.add_le_add_left (by decide:1<=64) _) hr.units
theorem bC {n:Nat}(h:n<=1000):n<sizeLine:=HU h (by decide)
section
variable {X:Cx}
theorem pv (i:Nat){x:Str}{pos:Pos}(hN:X.N[i]?=some x:=by rfl)(hv:C7 X.env.scope x:=by first | exact Or.inl rfl | exact GQ (Or.inl rfl) | exact GQ (GQ rfl))(hd:(x == ("__debug__" : Str))=false:=by decide)
  (hcd:(x == ("__classdict__" : Str))=false:=by decide):PE X (.Name x pos) (qL i):=C8 hN hv hd hcd
end
theorem bN {A B:Prop}(h:B):if false=true then A else B:=by
 rw [if_neg GJ]
 exact h
theorem bT {A B:Prop}(h:A):if true=true then A else B:=by
 rw [if_pos rfl]
 exact h
theorem dh {c A B:Prop}[Decidable c](h1:c->A)(h2:¬c->B):if c then A else B:=by
 by_cases h:c
 ·rw [if_pos h]
  exact h1 h
 ·rw [if_neg h]
  exact h2 h
def af (H H':Hp):Prop:=∀b o,H b=some o->H' b=some o
theorem af.refl (H:Hp):af H H:=fun _ _ h=>h
theorem af.trans {H H1 H2:Hp}(a:af H H1)(b:af H1 H2):af H H2:=fun c o h=>b c o (a c o h)
theorem af.free {H H':Hp}(e:af H H'){l:Addr}(h:H' l=Option.none):H l=Option.none:=by
 cases q:H l with
 | none=>rfl
 | some o =>
  rw [e l o q] at h
  cases h
section
variable {X:Cx}
theorem Cd:eG X (binaryOp .Mult) (rI IntMulOk fun i j=>.int (i*j)):=vJ fun _ _ _ _ _ _ _ hc q=>mul_int q hc
def EA (_i j:Int):Prop:=0<j/\j.natAbs.log2<9000
theorem Ah:eG X (binaryOp .FloorDiv) (rI EA fun i j=>.int (i / j)):=vJ fun i j _ _ _ _ _ hc q=>by
 have h1:(0:Int)<j:=hc.1
 exact floordiv_int (by omega) (by rw [Int.fdiv_eq_ediv_of_nonneg i (by omega)];exact q) (.inl (PyProof.noPylong_of_log2 hc.2))
inductive Fx (K:Gh) (xs:List V) (H:Hp) (Q:VK):Prop
 | mk (x T t b:_) (_:xs=[x,.ty T]) (_:fY K H x t) (_:PySem.W.kitOne K t (.type T)=some b) (_:Q (.bl b) H)
theorem oG:dW X (.builtin "isinstance") (Fx X.K):=by
 intro pins s Gf H vs us Q I rv h
 obtain⟨x,T,t,b,rfl,ty,e,q⟩:=h
 obtain⟨u,w',rfl,ru,rw'⟩:=vals2 rv
 cases (show w' = Value.type T from rw')
 exact yt I ru ty e fun tk=>⟨.bl b,H,I.tok tk,rfl,q⟩
structure Own (P:Program) (w:World) (K:Gh) (mg:Str->Option Value) (base:Heap) (x:Str) (k:Nat) (ps:List Str) (sp:Sp):Prop where
 ex:∃f fd,bA P w K mg base bX k f fd ps sp/\mg x=some (.ref f)/\Hd K (.ref f)=true/\Binds K fd ps []
variable {x:Str}{k:Nat}{ps:List Str}{sp:Sp}{e:Expr}{es:List Expr}{t:TA}{p pos:Pos}
theorem Dz (o:Own X.prog X.w X.K X.mg X.base x k ps sp)(hr:de k X.A)(hg:Gl X x)(ha:PA X (e::es) t)
  (hdb:(x == ("__debug__" : Str))=false:=by decide) (he:starEach (e::es) X.env=(false,eval e X.env)::starEach es X.env:=by rfl)
  (hpl:(backTo pos (starEach es X.env)).any (·.1)=false:=by rfl):PE X (.Call (.Name x p) (e::es) [] pos) (tG sp [] E0 t):=by
 obtain⟨f,fd,F,hm,hk,hb⟩:=o.ex
 exact vQ F hr hg hm hk hb .nil xo ha hdb he hpl
end
theorem cJ {α : Type}{x:α}{xs:List α}:fq (x::xs) 0=some x:=bS (j:=0) rfl
theorem dA {α : Type}{x y:α}{xs:List α}:fq (x::y::xs) 1=some y:=bS (j:=1) rfl
theorem at2 {α : Type}{x y z:α}{xs:List α}:fq (x::y::z::xs) 2=some z:=bS (j:=2) rfl
theorem xp {α : Type}{xs:List α}{i:Int}(h0:0<=i)(h1:i<xs.length):∃v,fq xs i=some v/\v∈xs:=by
 obtain⟨j,rfl⟩:∃j:Nat,i=j:=⟨i.toNat,by omega⟩
 have hj:j<xs.length:=by omega
 exact⟨xs[j],bS (by simp [hj]),List.getElem_mem hj⟩
theorem bV:bootBuiltins "len" = some (.builtin "len"):=by decide +kernel
theorem DA:bootBuiltins "min" = some (.builtin "min"):=by decide +kernel
theorem DB:bootBuiltins "max" = some (.builtin "max"):=by decide +kernel
theorem eO:bootBuiltins "isinstance" = some (.builtin "isinstance"):=by decide +kernel
theorem ma:bootBuiltins "int" = some (.type "int"):=by decide +kernel
theorem Ce:bootBuiltins "bool" = some (.type "bool"):=by decide +kernel
theorem cb:bootBuiltins "tuple" = some (.type "tuple"):=by decide +kernel
theorem vW:bootBuiltins "list" = some (.type "list"):=by decide +kernel
def cH (H:Hp)(b:Addr):Prop:=∃x y:Int,H b=some (.lst [.int x,.int y])/\0<=y/\y<2147483648
def Fix (b:Addr)(H H':Hp):Prop:=∀c o,H c=some o->c≠b->H' c=some o
theorem Fix.trans {b:Addr}{H H1 H2:Hp}(u:Fix b H H1)(v:Fix b H1 H2):Fix b H H2:=fun c o h n=>v c o (u c o h n) n
theorem Fix.Bw {b:Addr}{H:Hp}{o:HO}:Fix b H (upd H b o):=fun c u h n=>by rw [ao n];exact h
theorem Fix.new {b p:Addr}{H:Hp}{o:HO}(hp:H p=none):Fix b H (upd H p o):=fun c u h _=>by rw [ao (ar h hp)];exact h
theorem Fix.of_same {b:Addr}{H H':Hp}(h:af H H'):Fix b H H':=fun c o e _=>h c o e
theorem af.new {p:Addr}{H:Hp}{o:HO}(hp:H p=none):af H (upd H p o):=fun c u h=>by rw [ao (ar h hp)];exact h
theorem cH.new {b p:Addr}{H:Hp}{o:HO}(h:cH H b)(hp:H p=none):cH (upd H p o) b:=by
 obtain⟨x,y,e,q⟩:=h
 exact⟨x,y,by rw [ao (ar e hp)];exact e,q⟩
theorem cH.same {b:Addr}{H H':Hp}(h:cH H b)(s:af H H'):cH H' b:=by
 obtain⟨x,y,e,q⟩:=h
 exact⟨x,y,s _ _ e,q⟩
theorem tV {α : Type}{x0:α}:[x0].length<=sizeLine:=by show 1<=sizeLine;decide
theorem ln2 {α : Type}{x0 x1:α}:[x0,x1].length<=sizeLine:=by show 2<=sizeLine;decide
theorem vX {α : Type}{x0 x1 x2:α}:[x0,x1,x2].length<=sizeLine:=by show 3<=sizeLine;decide
theorem FU {α : Type}{x0 x1 x2 x3 x4:α}:[x0,x1,x2,x3,x4].length<=sizeLine:=by show 5<=sizeLine;decide
theorem FW {α : Type}{x0 x1 x2 x3 x4 x5 x6:α}:[x0,x1,x2,x3,x4,x5,x6].length<=sizeLine:=by show 7<=sizeLine;decide
theorem cH.gK {b p:Addr}{H:Hp}{xs:List V}(h:cH H b)(e:H p=some (.tup xs)):p≠b:=by
 obtain⟨x,y,e1,_⟩:=h
 exact bw e e1 (by intro z;cases z)
theorem cH.gh {b p:Addr}{H:Hp}(h:cH H b)(e:H p=none):p≠b:=by
 obtain⟨x,y,e1,_⟩:=h
 exact fun z=>ar e1 e z.symm
inductive Bx (K:Gh) (vs:List V) (H:Hp) (Q:VK) (_:XK):Prop
 | mk (a:Addr) (ns:List Int) (k:Int) (_:vs=[.ref a,.int k]) (_:aO K H a (ns.map V.int)) (_:0<=k) (_:∀b H',H b=none->cH H' b->af H H'->Q (.ref b) H')
inductive gQ  (vs:List V) (H:Hp) (Q:VK) (_:XK):Prop
 | mk (b:Addr) (m:Int) (_:vs=[.ref b,.int m]) (_:cH H b) (_:(0<m/\m.natAbs.log2<9000)) (_:∀r H',0<=r->r<m->cH H' b->Fix b H H'->Q (.int r) H')
inductive tH (K:Gh) (vs:List V) (H:Hp) (Q:VK) (_:XK):Prop
 | mk (a:Addr) (ns:List Int) (_:vs=[.ref a]) (_:aO K H a (ns.map V.int)) (_:ns.length<=63) (_:∀H',Q (.bl true) H')
def j9 (cells:List (Str×Addr)):List (Str×NameKind)->List (Str×Addr)->List (Str×Addr)
 | [],cs=>cs
 | (n,k)::r,cs=>j9 cells r (if k == .free then (n,(cells.lookup n).getD 0)::cs else cs)
theorem pP {scope:Scope}{env:Env}(hf:∀y∈scope.names,y.2=.free->∃c,env.cells.lookup y.1=some c):closureFor scope env=pure (j9 env.cells scope.names []):=by
 have key:∀(names:List (Str×NameKind)) (cs:List (Str×Addr)),(∀y∈names,y.2=.free->∃c,env.cells.lookup y.1=some c) ->
   (forIn names cs fun x r=>match x with
    | (name,kind)=>if (kind == NameKind.free)=true then (do let a <-cellOf env name;pure (ForInStep.yield ((name,a)::r))) else pure (ForInStep.yield r):Sem (List (Str×Addr)))=pure (j9 env.cells names cs):=by
  intro names
  induction names with
  | nil=>intro cs _;rfl
  | cons y r ih =>
   intro cs hy
   obtain⟨n,k⟩:=y
   have ih':=fun cs=>ih cs fun z hz=>hy z (Gv _ hz)
   rw [HD]
   by_cases hk:(k == NameKind.free)=true
   ·have e:k=.free:=by simpa using hk
    obtain⟨c,hc⟩:=hy (n,k) Gx e
    have hc':env.cells.lookup n=some c:=hc
    simp only [hk,if_true,cellOf,hc',pure_bind,j9,Option.getD_some]
    exact ih' _
   ·have hk':(k == NameKind.free)=false:=by simpa using hk
    simp only [hk',Hh,if_false,pure_bind,j9]
    exact ih' _
 unfold closureFor
 have e:=key scope.names [] hf
 show ((forIn scope.names ([]:List (Str×Addr)) fun x r=>match x with
    | (name,kind)=>if (kind == NameKind.free)=true then (do let a <-cellOf env name;pure (ForInStep.yield ((name,a)::r))) else pure (ForInStep.yield r):Sem (List (Str×Addr))) >>= fun r=>pure r)=_
 rw [e,pure_bind]
theorem me {cells:List (Str×Addr)}:∀(names:List (Str×NameKind)) (cs:List (Str×Addr)),(∀y∈names,y.2=.free->∃c,cells.lookup y.1=some c) ->
  (∀x c,cs.lookup x=some c->cells.lookup x=some c)->∀x c,(j9 cells names cs).lookup x=some c->cells.lookup x=some c
 | [],_,_,h,x,c,e=>h x c e
 | (n,k)::r,cs,hf,h,x,c,e=>by
  refine me r _ (fun y hy=>hf y (Gv _ hy)) (fun z d hz=>?_) x c e
  by_cases hk:(k == NameKind.free)=true
  ·rw [if_pos hk] at hz
   obtain⟨c',hc⟩:=hf (n,k) Gx (by simpa using hk)
   have hc':cells.lookup n=some c':=hc
   rw [Hr] at hz
   cases hzn:z == n with
   | true =>
    rw [hzn] at hz
    have:z=n:=by simpa using hzn
    subst this
    rw [hc'] at hz ⊢
    simpa using hz
   | false=>rw [hzn] at hz;exact h z d hz
  ·rw [if_neg hk] at hz;exact h z d hz
theorem qO {cells:List (Str×Addr)}{x:Str}:∀(names:List (Str×NameKind)) (cs:List (Str×Addr)),((x,NameKind.free)∈names\/∃c,cs.lookup x=some c)->∃c,(j9 cells names cs).lookup x=some c
 | [],_,h=>by
  rcases h with h | h
  ·cases h
  ·exact h
 | (n,k)::r,cs,h=>by
  refine qO r _ ?_
  by_cases hk:(k == NameKind.free)=true
  ·rw [if_pos hk]
   cases hxn:x == n with
   | true=>exact .inr ⟨_,by rw [Hr,hxn]⟩
   | false =>
    rcases h with h | ⟨c,h⟩
    ·rcases Gn.mp h with h | h
     ·have:x=n:=(Prod.mk.inj h).1
      subst this
      simp at hxn
     ·exact .inl h
    ·exact .inr ⟨c,by rw [Hr,hxn];exact h⟩
  ·rw [if_neg hk]
   rcases h with h | h
   ·rcases Gn.mp h with h | h
    ·have:NameKind.free=k:=(Prod.mk.inj h).2
     subst this
     simp at hk
    ·exact .inl h
   ·exact .inr h
theorem jl {env:Env}{x:Str}{k:NameKind}(hk:k=.cell\/k=.free):∀{names:List (Str×NameKind)},(∀y∈names,y.2≠.cell) ->
  (names.map fun (n,k)=>if (k == NameKind.free&&env.scope.kind == .function&&env.kindOf n == some .cell) then (n,NameKind.cell) else (n,k)).lookup x=some k->(x,NameKind.free)∈names
 | [],_,h=>by simp at h
 | (n,q)::r,hc,h=>by
  have ih:=jl (env:=env) (x:=x) hk (names:=r) (fun y hy=>hc y (Gv _ hy))
  have h':Hc x ((if (q == NameKind.free&&env.scope.kind == .function&&env.kindOf n == some .cell)=true then (n,NameKind.cell) else (n,q))::_)=some k:=h
  by_cases hq:(q == NameKind.free&&env.scope.kind == .function&&env.kindOf n == some .cell)=true
  ·rw [if_pos hq,Hr] at h'
   have eq:q=.free:=by
    rw [G3,G3] at hq
    simpa using hq.1.1
   cases hxn:x == n with
   | true =>
    have:x=n:=by simpa using hxn
    subst this;subst eq
    exact Gx
   | false=>rw [hxn] at h';exact Gv _ (ih h')
  ·rw [if_neg hq,Hr] at h'
   cases hxn:x == n with
   | true =>
    rw [hxn] at h'
    have:x=n:=by simpa using hxn
    subst this
    have e:q=k:=Gy.inj h'
    subst e
    rcases hk with hk | hk
    ·exact absurd hk (hc (x,q) Gx)
    ·subst hk;exact Gx
   | false=>rw [hxn] at h';exact Gv _ (ih h')
theorem mf {env:Env}{x:Str}:∀{names:List (Str×NameKind)},names.lookup x=some .free ->
  (names.map fun (n,k)=>if (k == NameKind.free&&env.scope.kind == .function&&env.kindOf n == some .cell) then (n,NameKind.cell) else (n,k)).lookup x=some .cell \/
  (names.map fun (n,k)=>if (k == NameKind.free&&env.scope.kind == .function&&env.kindOf n == some .cell) then (n,NameKind.cell) else (n,k)).lookup x=some .free
 | [],h=>by simp at h
 | (n,q)::r,h=>by
  have ih:=mf (env:=env) (x:=x) (names:=r)
  show Hc x ((if (q == NameKind.free&&env.scope.kind == .function&&env.kindOf n == some .cell)=true then (n,NameKind.cell) else (n,q))::_)=some .cell \/
   Hc x ((if (q == NameKind.free&&env.scope.kind == .function&&env.kindOf n == some .cell)=true then (n,NameKind.cell) else (n,q))::_)=some .free
  rw [Hr] at h
  by_cases hq:(q == NameKind.free&&env.scope.kind == .function&&env.kindOf n == some .cell)=true
  ·rw [if_pos hq,Hr]
   cases hxn:x == n with
   | true=>exact .inl rfl
   | false=>rw [hxn] at h;exact ih h
  ·rw [if_neg hq,Hr]
   cases hxn:x == n with
   | true=>rw [hxn] at h;exact .inr h
   | false=>rw [hxn] at h;exact ih h
def gS (X:Cx)(scope:Scope)(C:Addr)(N':List Str)(fp:List Addr)(s₁ : Shared)(H₁ : Hp):Cx where
 prog:=X.prog
 w:=X.w
 K:=X.K
 mg:=X.mg
 base:=X.base
 A:=X.A
 N:=N'
 dJ:=s₁
 kq:=H₁
 env:=compEnvC scope (j9 X.env.cells scope.names []) C X.env
 outer:=X.stack
 stack:=X.stack
 ex:=fp
 fn:=fun _=>false
 calm:=X.calm
 pn:=[]
 xe:=fun _ _=>False
def ik (X:Cx)(scope:Scope):List Str->List Nat->Prop
 | [],[]=>True
 | x::fr,j::js=>(X.N[j]?=some x/\(X.env.kindOf x=some .cell\/X.env.kindOf x=some .free)/\scope.names.lookup x=some .free)/\ik X scope fr js
 | _,_=>False
theorem ik.len {X:Cx}{scope:Scope}:∀{fr:List Str} {js:List Nat},ik X scope fr js->fr.length=js.length
 | [],[],_=>rfl
 | _::_,_::_,h=>by simp [ik.len h.2]
 | [],_::_,h=>h.elim
 | _::_,[],h=>h.elim
theorem ik.mem {X:Cx}{scope:Scope}{x:Str}:∀{fr:List Str} {js:List Nat},ik X scope fr js->x∈fr->X.env.kindOf x=some .cell\/X.env.kindOf x=some .free
 | [],[],_,h=>by cases h
 | a::fr,b::js,h,hm=>by
  rcases Gn.mp hm with rfl | hm
  ·exact h.1.2.1
  ·exact ik.mem h.2 hm
 | [],_::_,h,_=>h.elim
 | _::_,[],h,_=>h.elim
theorem ik.get {X:Cx}{scope:Scope}:∀{fr:List Str} {js:List Nat} {i:Nat} {x:Str} {j:Nat},ik X scope fr js->fr[i]?=some x->js[i]?=some j ->
  X.N[j]?=some x/\(X.env.kindOf x=some .cell\/X.env.kindOf x=some .free)/\scope.names.lookup x=some .free
 | [],[],_,_,_,_,h,_=>by simp at h
 | a::fr,b::js,0,x,j,h,h1,h2=>by
  simp at h1 h2
  subst h1;subst h2
  exact h.1
 | a::fr,b::js,i+1,x,j,h,h1,h2=>ik.get h.2 (by simpa using h1) (by simpa using h2)
 | [],_::_,_,_,_,h,_,_=>h.elim
 | _::_,[],_,_,_,h,_,_=>h.elim
def nW (n:Nat)(js:List Nat)(Gf : St):St:=Hu n none++js.map fun j=>Gf.getD j none
theorem DC {X:Cx}{pins:List (Addr×Obj)}{Gf : St}{H:Hp}{s:Shared}{scope:Scope}{fp:List Addr}{C:Addr}{N':List Str}(I:Inv X pins Gf H s)(hk:scope.kind=.function)(hcell:∀y∈scope.names,y.2≠.cell)
  (hf:∀y∈scope.names,y.2=.free->∃c,X.env.cells.lookup y.1=some c) (hC:s.heap.objs.size<=C) (hfp:∀b∈fp,je X pins H b) (hlt:∀b∈fp,b<s.heap.objs.size):(gS X scope C N' fp s H).Ok:=by
 have ag:∀x c,(j9 X.env.cells scope.names []).lookup x=some c->X.env.cells.lookup x=some c:=me scope.names [] hf fun x c e=>by simp at e
 refine⟨I.ok.mod,hk,I.ok.glob,I.ok.blt,hC,fun x y c h1 h2=>I.ok.inj x y c (ag x c h1) (ag y c h2),fun x hx=>?_,(fun x c h=>(by cases h)),I.ok.hd,I.ok.frames,.inl rfl,fun b hb=>?_,I.bs,?_,fun b o e hb=>?_,fun b hb=>?_,I.stack,I.j3⟩
 ·refine qO scope.names [] (.inl ?_)
  rcases hx with hx | hx
  ·exact jl (.inl rfl) hcell hx
  ·exact jl (.inr rfl) hcell hx
 ·obtain⟨h1,h2,h3,h4,h5,h6⟩:=hfp b hb
  exact⟨Gs (GO (hlt b hb) hC),fun x c e=>h5 x c (ag x c e)⟩
 ·exact Gr I.ok.lI I.sz
 ·obtain⟨h1,h2,h3,h4,h5,h6⟩:=hfp b hb
  rcases h4 with h4 | h4
  ·exact I.ok.lU b o e h4
  ·exact absurd (GO (Gm e) (Gr I.ok.lI h4)) (G1 _)
 ·obtain⟨h1,h2,h3,h4,h5,h6⟩:=hfp b hb
  intro z
  rcases Gn.mp (I.pF b z) with z | z
  ·exact h2 z
  ·exact h3 z
def vY (J:It)(n:Nat)(js:List Nat)(g:TG)(ct:TT)(te:TE)(acc:Addr)(Gf : St)(H1:Hp)(Q:VK):Prop :=
 ∃W:Nat->Nat->List V->St->Hp->Prop,(∃m,W 0 m [] (nW n js Gf) (upd H1 acc (.lst [])))/\∀i m ys Gg H2,W i m ys Gg H2->H2 acc=some (.lst ys)/\ys.length<sizeLine /\
  ((J.stop i H2/\Q (.ref acc) H2)\/(J.go i H2/\∃N:List V->St->Hp->Prop,(∀ys' τ' H',N ys' τ' H'->∃m',m' < m/\W (i+1) m' ys' τ' H')/\∀x H3,J.vG i H2 x H3->g x Gg H3 fun τ1 H4=>ct τ1 H4 fun b H5 =>
   if b=true then te τ1 H5 fun y H6=>H6 acc=some (.lst ys)/\N (ys++[y]) τ1 (upd H6 acc (.lst (ys++[y]))) else N ys τ1 H5))
def EU (n:Nat)(js:List Nat)(wi:TI)(g:TG)(ct:TT)(te:TE):TE:=fun Gf H Q=>wi Gf H fun J H1=>∀acc,H1 acc=none->vY J n js g ct te acc Gf H1 Q
def yD (X:Cx)(ifs:List Expr)(t:TT):Prop :=
 ∀(pins:List (Addr×Obj)) (s:Shared) (Gf : St) (H:Hp) (Q:Bool->Hp->Prop),Inv X pins Gf H s->t Gf H Q ->
  wpAny (model X.prog X.w) X.A (forIn ifs true fun c r=>if r=true then do let ok <-isTrue c X.env (eval c X.env);pure (ForInStep.yield ok) else pure (ForInStep.yield r)) (TP X pins Gf Q) X.xe s
def DD:TT:=fun _ H Q=>Q true H
theorem eX {X:Cx}:yD X [] DD:=fun _ _ Gf H Q I h=>IX ⟨H,I,h⟩
theorem qP {X:Cx}{c:Expr}{t:TT}(h:PT X c t):yD X [c] t:=by
 intro pins s Gf H Q I q
 rw [HD]
 simp only [if_true,bind_assoc,pure_bind]
 refine IW (bB (h pins s Gf H Q I q) fun b s1 h1=>?_)
 exact IX h1
section
variable {X:Cx}{pos:Pos}
theorem lS {prog:Program}{w:World}{A:Around}{R:Result->Shared->Prop}{s:Shared}{elt target iter:Expr}{ifs:List Expr}{scope:Scope}{pos:Pos}{it acc:Value}{env:Env}(I:Nat->Shared->Prop)
  (turn:∀n s,I n s->wpAny (model prog w) A (pyNext it) (fun r s₁=>match r with
   | none=>R (.ok .next) s₁
   | some v=>wpAny (model prog w) A (letOwnedTupleGo target it v) (fun _ s₁'=>wpAny (model prog w) A (assign target env v) (fun _ s₂ =>
     wpAny (model prog w) A (forIn ifs true fun c r=>if r=true then do let ok <-isTrue c env (eval c env);pure (ForInStep.yield ok) else pure (ForInStep.yield r)) (fun ok s₃ =>
      if ok=true then wpAny (model prog w) A (eval elt env) (fun x s₄ =>
       wpAny (model prog w) A (call (.builtin "list.append") [acc,x]) (fun _ s₅=>∃m,m<n/\I m s₅) (fun _ _=>False) s₄) (fun _ _=>False) s₃
      else ∃m,m<n/\I m s₃) (fun _ _=>False) s₂) (fun _ _=>False) s₁') (fun _ _=>False) s₁) (fun _ _=>False) s)
  (n:Nat) (h:I n s) :
  codeAny (model prog w) A (.compLoop (.ListComp elt [⟨target,iter,ifs,0⟩] scope pos) 0 it acc env) R s:=by
 refine codeAny_loop rfl I (fun n s hI=>?_) n h
 show wpAny _ A ((compTurn (.ListComp elt [⟨target,iter,ifs,0⟩] scope pos) 0 it acc env).onRaise (fun x=>do noteFrame x env;theTreesLotGoes x)) _ _ s
 refine wpAny_noted ?_
 rw [compTurn_list]
 refine IW (Jn (IW (IY (turn n s hI) (fun r s₁ h₁=>?_) fun _ _ h'=>h'.elim)))
 cases r with
 | none=>exact IX h₁
 | some v =>
  refine IW (IY h₁ (fun _ s₁' h₁'=>?_) fun _ _ h'=>h'.elim)
  refine IW (IY h₁' (fun _ s₂ h₂=>IW (IY h₂ (fun ok s₃ h₃=>?_) fun _ _ h'=>h'.elim)) fun _ _ h'=>h'.elim)
  cases ok with
  | false=>exact IX ⟨rfl,h₃⟩
  | true =>
   exact IW (IW (IY h₃ (fun x s₄ h₄=>IW (IY h₄ (fun _ s₅ h₅=>IX (IX ⟨rfl,h₅⟩)) fun _ _ h'=>h'.elim)) fun _ _ h'=>h'.elim))
theorem vZ {pins:List (Addr×Obj)}{Gf : St}{H:Hp}{s:Shared}{E:Value->Shared->Prop}{tg elt iter:Expr}{ifs:List Expr}{scope:Scope}{g:TG}{ct:TT}{te:TE}{ts fr:List Str}{js:List Nat}
    {it:Addr} {fp:List Addr} {tn:Nat->Heap->Prop} {J:It} {Q:VK} {RR:Value->Addr->Result->Shared->Prop}
    (hc:X.calm=true) (hkind:scope.kind=.function) (hcell:∀y∈scope.names,y.2≠.cell) (hfree:∀y∈scope.names,y.2=.free->X.env.kindOf y.1=some .cell\/X.env.kindOf y.1=some .free)
    (hfr:ik X scope fr js) (htg:∀C fp s₁ H₁,PG (gS X scope C (ts++fr) fp s₁ H₁) tg g) (hct:∀C fp s₁ H₁,yD (gS X scope C (ts++fr) fp s₁ H₁) ifs ct) (hte:∀C fp s₁ H₁,PE (gS X scope C (ts++fr) fp s₁ H₁) elt te)
    (I:Inv X pins Gf H s) (T:Turn X.prog X.w X.K tg J fp it tn) (st:tn 0 s.heap) (hfp:∀b∈fp,je X pins H b)
    (h:∀acc,H acc=none->vY J ts.length js g ct te acc Gf H Q)
    (hRR:∀acc C H' s' m,Inv X pins Gf H' s'->s'.heap.Ns C m->H' C=none->s.heap.objs.size<=C->Q (.ref acc) H'->RR (.ref acc) C (.ok .next) s') :
    wpAny (model X.prog X.w) X.A (newList []) (fun acc s₃=>wpAny (model X.prog X.w) X.A (newFunctionEnv scope X.env.globals (j9 X.env.cells scope.names []) [] X.env.qual none .none (some X.env)) (fun cenv s₄ =>
      codeAny (model X.prog X.w) X.A (.compStart (.ListComp elt [⟨tg,iter,ifs,0⟩] scope pos) 0 (.ref it) acc { cenv with scope:=relabel scope X.env }) (RR acc cenv.locals) s₄) E s₃) E s:=by
  have hf:∀y∈scope.names,y.2=.free->∃c,X.env.cells.lookup y.1=some c:=fun y hy e=>I.ok.has y.1 (hfree y hy e)
  have ag:∀x c,(j9 X.env.cells scope.names []).lookup x=some c->X.env.cells.lookup x=some c:=me scope.names [] hf fun x c e=>by simp at e
  have hlt:∀b∈fp,b<s.heap.objs.size:=fun b hb=>by
    obtain⟨o,e,_⟩:=T.obj _ _ st b hb
    exact Gm e
  refine Jc (wpAny_newFunctionEnv hcell (by intro y hy;simp at hy) (fun h₁ hns₁ hsb₁=>?_) hkind)
  dsimp only at hns₁ hsb₁ ⊢
  generalize hH2:s.heap.push { cls:=.type "list",dict:=none,data:=.seq ([]:List Value).toArray }=G2 at hns₁ hsb₁ ⊢
  have hC:G2.objs.size=s.heap.objs.size+1:=by rw [<-hH2,GP]
  have hDC:s.heap.objs.size≠G2.objs.size:=by rw [hC];exact Gs (Hf _)
  have hCle:s.heap.objs.size<=G2.objs.size:=by rw [hC];exact Hn _
  have below:∀b,b<s.heap.objs.size->b≠G2.objs.size/\b≠s.heap.objs.size:=fun b hb=>⟨by rw [hC];exact Gs (G6 hb),Gs hb⟩
  have old:∀b o,s.heap.get? b=some o->h₁.get? b=some o:=fun b o e=>hsb₁.extBut b o (below b (Gm e)).1 (Gp _ (hH2 ▸ Gp _ e))
  have hacc:h₁.get? s.heap.objs.size=some { cls:=.type "list",data:=.seq ([]:List Value).toArray }:=hsb₁.extBut _ _ hDC (Gp _ (hH2 ▸ Gu _ rfl))
  have nD:H s.heap.objs.size=none:=I.aL.fresh (Gj _)
  have nC:H G2.objs.size=none:=I.aL.fresh hCle
  obtain⟨W,⟨m0,w0⟩,turn⟩:=h s.heap.objs.size nD
  generalize hXb:gS X scope G2.objs.size (ts++fr) fp s H=Xb
  have Ib:∀tk,Inv Xb [] (nW ts.length js Gf) (upd H s.heap.objs.size (.lst [])) { s with heap:=h₁,toks:=tk }:=by
    intro tk
    subst hXb
    refine⟨DC I hkind hcell hf hCle hfp hlt,rfl,I.bare,Un.laid old (Gj _) nD,⟨_,hns₁,fun i x v e1 e2 e3=>?_⟩,fun x c e=>?_,?_,fun x c e=>?_,fun p hp=>absurd (show p∈([]:List (Addr×Obj)) from hp) (by simp),I.aL.laid old (Gj _) ⟨by show 0<=sizeLine;decide,[],_,.nil,hacc⟩,?_⟩
    . have hi:ts.length<=i:=by
        refine Nat.le_of_not_lt fun hi=>?_
        unfold nW at e2
        rw [Hv (by simpa using hi),IP] at e2
        split at e2 <;> cases e2
      have e1':fr[i-ts.length]?=some x:=by
        have e1'':(ts++fr)[i]?=some x:=e1
        rw [Ik hi] at e1''
        exact e1''
      unfold nW at e2
      rw [Ik (by simpa using hi),HR,Gz] at e2
      cases ej:js[i-ts.length]? with
      | none=>rw [ej] at e2;cases e2
      | some j =>
        rw [ej] at e2
        have e2':Gf.getD j none=some v:=by simpa using e2
        obtain⟨q1,q2,q3⟩:=hfr.get e1' ej
        have e2'':Gf[j]?=some (some v):=by
          rw [List.getD_eq_getElem?_getD] at e2'
          cases ez:Gf[j]? with
          | none=>rw [ez] at e2';cases e2'
          | some z=>rw [ez] at e2';rw [show z=some v from e2']
        obtain⟨m,hn,hl⟩:=I.loc
        obtain⟨u,r,l⟩:=hl j x v q1 e2'' (by
          rcases q2 with q2 | q2
          . exact .inr (.inl q2)
          . exact .inr (.inr q2))
        refine⟨u,r,.inr ⟨mf q3,?_⟩⟩
        rcases l with ⟨l,_⟩ | ⟨_,c,lc,lv⟩
        . rcases q2 with q2 | q2 <;> (rw [l] at q2;cases q2)
        . obtain⟨c',hc'⟩:=qO (cells:=X.env.cells) scope.names [] (.inl (PySem.mem_of_lookup q3))
          have:=ag x c' hc'
          rw [lc] at this
          cases this
          obtain⟨o,ho,hd⟩:=lv
          exact⟨c,hc',o,old _ _ ho,hd⟩
    . obtain⟨v,o,ho,hd⟩:=I.cell x c (ag x c e)
      exact⟨v,o,old _ _ ho,hd⟩
    . show upd H s.heap.objs.size (.lst []) G2.objs.size=none
      rw [ao hDC.symm];exact nC
    . obtain⟨v,o,ho,hd⟩:=I.cell x c (ag x c e)
      rw [ao (Gs (Gm ho))]
      exact I.dz x c (ag x c e)
    . show (nW ts.length js Gf).length=(ts++fr).length
      unfold nW
      rw [Gq,HR,Gi,Gq,hfr.len]
  have fpB:∀{H':Hp},(∀b∈fp,H' b=none)->∀b∈fp,je Xb [] H' b:=fun {H'} hn b hb=>by
    subst hXb
    obtain⟨h1,h2,h3,h4,h5,h6⟩:=hfp b hb
    refine⟨hn b hb,(below b (hlt b hb)).1,fun z=>?_,.inl hb,fun x c e=>h5 x c (ag x c e),fun p hp=>absurd (show p∈([]:List (Addr×Obj)) from hp) (by simp)⟩
    rcases Gn.mp (I.pF b z) with z | z
    . exact h2 z
    . exact h3 z
  have fin:∀{Gg : St} {H':Hp} {s':Shared},Inv Xb [] Gg H' s'->Q (.ref s.heap.objs.size) H'->RR (.ref s.heap.objs.size) G2.objs.size (.ok .next) s':=fun {Gg H' s'} Jb q=>by
    subst hXb
    obtain⟨m,hn,_⟩:=Jb.loc
    refine hRR _ _ H' s' m (I.Br (ch:=fp) Jb.os Jb.base Jb.aL Jb.bare fun b hb=>?_) hn Jb.free hCle q
    obtain⟨h1,h2,h3,h4,h5,h6⟩:=hfp b hb
    exact⟨h4,h2,h5,h6⟩
  have loop:∀tk,codeAny (model X.prog X.w) X.A (.compLoop (.ListComp elt [⟨tg,iter,ifs,0⟩] scope pos) 0 (.ref it) (.ref s.heap.objs.size) (compEnvC scope (j9 X.env.cells scope.names []) G2.objs.size X.env))
        (RR (.ref s.heap.objs.size) G2.objs.size) { s with heap:=h₁,toks:=tk }:=by
    intro tk
    refine lS (fun n s'=>∃i ys Gg H',Inv Xb [] Gg H' s'/\tn i s'.heap/\(∀b∈fp,H' b=none)/\W i n ys Gg H') ?_ m0 ⟨0,[],_,_,Ib tk,T.keep _ _ _ st fun b hb o e=>old b o e,fun b hb=>?_,w0⟩
    . rintro n s3 ⟨i,ys,Gg,H3,I3,st3,fr3,w3⟩
      have htg':=htg G2.objs.size fp s H
      have hct':=hct G2.objs.size fp s H
      have hte':=hte G2.objs.size fp s H
      rw [hXb] at htg' hct' hte'
      have eP:Xb.prog=X.prog:=by subst hXb;rfl
      have ew:Xb.w=X.w:=by subst hXb;rfl
      have eK:Xb.K=X.K:=by subst hXb;rfl
      have eA:Xb.A=X.A:=by subst hXb;rfl
      have ec:Xb.calm=true:=by subst hXb;exact hc
      have ee:Xb.env=compEnvC scope (j9 X.env.cells scope.names []) G2.objs.size X.env:=by subst hXb;rfl
      have ex:Xb.xe=fun _ _=>False:=by subst hXb;rfl
      rw [<-eP,<-ew,<-eA,<-ee]
      obtain⟨ha,hl,turn'⟩:=turn i n ys Gg H3 w3
      rcases turn' with ⟨stop,q⟩ | ⟨go,N,hN,step⟩
      . have hd:=T.done Xb eP ew eK ec i [] s3 Gg H3 (fun _ _=>False) I3 (fpB fr3) st3 stop
        rw [<-eP,<-ew] at hd
        refine IY hd (fun r s4 hr4=>?_) fun _ _ z=>z
        obtain⟨hr,I4⟩:=hr4
        subst hr
        exact fin I4 q
      . have hd:=T.item Xb eP ew eK ec i [] s3 Gg H3 (fun _ _=>False) I3 (fpB fr3) st3 go
        rw [<-eP,<-ew] at hd
        refine IY hd (fun r s4 hr4=>?_) fun _ _ z=>z
        obtain⟨u,hr,h4⟩:=hr4
        subst hr
        refine IY h4 (fun _ s5 ⟨x,H5,I5,r5,y5,st5,fr5⟩=>?_) fun _ _ z=>z
        have I5':=I5.pinned (fpB fr5) (T.obj _ _ st5)
        have jH:∀{σ7:St} {H7:Hp} {s7:Shared},Inv Xb ([]++lW fp s5.heap) σ7 H7 s7->tn (i+1) s7.heap/\∀b∈fp,H7 b=none:=fun {σ7 H7 s7} I7=>by
          refine⟨T.keep _ _ _ st5 fun b hb o e=>(I7.pin (b,o) (GS _ (GS _ (i6 hb e)))).1,fun b hb=>?_⟩
          obtain⟨o,e,d⟩:=T.obj _ _ st5 b hb
          exact (I7.pin (b,o) (GS _ (GS _ (i6 hb e)))).2.1
        refine IY (htg' _ s5 Gg H5 x u _ I5' r5 (step x H5 y5)) (fun _ s6 ⟨τ6,H6,I6,q6⟩=>?_) (fun _ _ z=>by rw [ex] at z;exact z)
        refine IY (hct' _ s6 τ6 H6 _ I6 q6) (fun ok s7 ⟨H7,I7,q7⟩=>?_) (fun _ _ z=>by rw [ex] at z;exact z)
        cases ok with
        | false =>
          have q7':N ys τ6 H7:=by rw [if_neg (by simp)] at q7;exact q7
          rw [if_neg (by simp)]
          obtain⟨m',hm,w7⟩:=hN _ _ _ q7'
          exact⟨m',hm,i+1,ys,τ6,H7,I7.jf,(jH I7).1,(jH I7).2,w7⟩
        | true =>
          rw [if_pos rfl] at q7 ⊢
          refine IY (hte' _ s7 τ6 H7 _ I7 q7) (fun v s8 ⟨y,H8,I8,r8,ha8,n8⟩=>?_) (fun _ _ z=>by rw [ex] at z;exact z)
          refine IY (bU (X:=Xb) _ s8 τ6 H8 (.ref s.heap.objs.size) [y] (.ref s.heap.objs.size) [v] (fun _ H9=>H9=upd H8 s.heap.objs.size (.lst (ys++[y]))) I8 rfl (.cons r8 .nil) ⟨_,ys,y,rfl,rfl,ha8,hl,rfl⟩) (fun _ s9 ⟨_,H9,I9,_,e9⟩=>?_) (fun _ _ z=>by rw [ex] at z;exact z)
          subst e9
          obtain⟨m',hm,w8⟩:=hN _ _ _ n8
          exact⟨m',hm,i+1,_,τ6,_,I9.jf,(jH I9).1,(jH I9).2,w8⟩
    . rw [ao (Gs (hlt b hb))]
      exact (hfp b hb).1
  exact codeAny_compStart_list (loop _) (T.self _ 0 _ _ _ (T.keep _ _ _ st fun b hb o e=>old b o e) (loop _))
theorem Inv.yE {pins:List (Addr×Obj)}{Gf : St}{H H':Hp}{s s':Shared}{C:Addr}{h':Heap}(I:Inv X pins Gf H s){σ':St}(I':Inv X pins σ' H' s')(hC:H' C=none)(hle:s.heap.objs.size<=C)(hsb:GW C s'.heap h') :
  Inv X pins σ' H' { s' with heap:=h' }:=by
 obtain⟨h1,h2,h3,h4,h5,h6⟩:=I.oB (H':=H') hle hC
 exact I'.turned (t':=s'.toks) (fun b o hb e=>hsb.extBut b o hb e) hC h2 h4 h5 h6
theorem fJ {tg elt iter:Expr}{ifs:List Expr}{scope:Scope}{wi:TI}{g:TG}{ct:TT}{te:TE}(ts fr:List Str)(js:List Nat)
  (hc:X.calm=true) (hi:PI X tg iter wi) (hkind:scope.kind=.function) (hcell:∀y∈scope.names,y.2≠.cell) (hnames:∀y∈scope.names,y.2=.local->scope.names.lookup y.1=some .local)
  (hfree0:∀y∈scope.names,y.2=.free->y.1∈fr) (hfr:ik X scope fr js)
  (htg:∀C fp s₁ H₁,PG (gS X scope C (ts++fr) fp s₁ H₁) tg g) (hct:∀C fp s₁ H₁,yD (gS X scope C (ts++fr) fp s₁ H₁) ifs ct) (hte:∀C fp s₁ H₁,PE (gS X scope C (ts++fr) fp s₁ H₁) elt te)
  (hs:∀x,foldedSetIterable iter X.env x=pure x:=by intro _;rfl):PE X (.ListComp elt [⟨tg,iter,ifs,0⟩] scope pos) (EU ts.length js wi g ct te):=by
 have hfree:∀y∈scope.names,y.2=.free->X.env.kindOf y.1=some .cell\/X.env.kindOf y.1=some .free:=fun y hy e=>hfr.mem (hfree0 y hy e)
 intro pins s Gf H Q I h
 rw [eval_ListComp]
 refine JG (use:=none) rfl hs (pP fun y hy e=>I.ok.has y.1 (hfree y hy e)) hkind hnames (bB (hi pins s Gf H _ I h) fun xv s1 h1=>bB h1 fun itv s2 h2=>?_)
 obtain⟨it,fp,tn,J,H2,e,I2,T,st2,f2,hW⟩:=h2
 subst e
 refine vZ (RR:=fun acc C=>compPost (model X.prog X.w) X.A X.xe none (EP X pins Gf Q) acc C) hc hkind hcell hfree hfr htg hct hte I2 T st2 f2 hW ?_
 intro acc C H' s' m I' hn hC hle q
 exact⟨m,hn,fun h' hsb=>⟨.ref acc,H',I2.yE I' hC hle hsb,rfl,q⟩⟩
theorem il {tg elt iter:Expr}{ifs:List Expr}{scope:Scope}{wi:TI}{g:TG}{ct:TT}{te:TE}{i:Nat}{y:Str}{py spos:Pos}(ts fr:List Str)(js:List Nat)
  (hsw:swapsWith (.ListComp elt [⟨tg,iter,ifs,0⟩] scope pos) (some (.Name y py)) spos.line X.env=pure true) (hN:X.N.Nodup) (hi0:X.N[i]?=some y) (hx:X.env.scope.names.lookup y=some .local)
  (hc:X.calm=true) (hi:PI X tg iter wi) (hkind:scope.kind=.function) (hcell:∀y∈scope.names,y.2≠.cell) (hnames:∀y∈scope.names,y.2=.local->scope.names.lookup y.1=some .local)
  (hfree0:∀y∈scope.names,y.2=.free->y.1∈fr) (hfr:ik X scope fr js)
  (htg:∀C fp s₁ H₁,PG (gS X scope C (ts++fr) fp s₁ H₁) tg g) (hct:∀C fp s₁ H₁,yD (gS X scope C (ts++fr) fp s₁ H₁) ifs ct) (hte:∀C fp s₁ H₁,PE (gS X scope C (ts++fr) fp s₁ H₁) elt te)
  (hs:∀x,foldedSetIterable iter X.env x=pure x:=by intro _;rfl):PS X (.Assign [.Name y py] (.ListComp elt [⟨tg,iter,ifs,0⟩] scope pos) spos) (wW (EU ts.length js wi g ct te) (m5 i)):=by
 have hfree:∀y∈scope.names,y.2=.free->X.env.kindOf y.1=some .cell\/X.env.kindOf y.1=some .free:=fun y hy e=>hfr.mem (hfree0 y hy e)
 intro pins s Gf H D I h
 rw [exec_Assign_Name_used _ _ _ _ hsw]
 refine IW (Jn (IW ?_))
 show wpAny _ X.A (do let _ <-comprehension (.ListComp elt [⟨tg,iter,ifs,0⟩] scope pos) scope X.env _ (newList []) false (eval iter X.env) (some (assign (.Name y py) X.env))) _ _ s
 refine IW (IY (JG (use:=some (assign (.Name y py) X.env)) (Q:=fun _ s'=>SP X pins D .next s') rfl hs (pP fun y hy e=>I.ok.has y.1 (hfree y hy e)) hkind hnames
  (bB (hi pins s Gf H _ I h) fun xv s1 h1=>bB h1 fun itv s2 h2=>?_)) (fun _ s' hq=>IX (IX hq)) fun _ _ e=>e)
 obtain⟨it,fp,tn,J,H2,e,I2,T,st2,f2,hW⟩:=h2
 subst e
 refine vZ (Q:=fun v H'=>D.nx (Gf.set i (some v)) H') (RR:=fun acc C=>compPost (model X.prog X.w) X.A X.xe (some (assign (.Name y py) X.env)) (fun _ s'=>SP X pins D .next s') acc C) hc hkind hcell hfree hfr htg hct hte I2 T st2 f2 hW ?_
 intro acc C H' s' m I' hn hC hle q
 show wpAny _ X.A (assign (.Name y py) X.env (.ref acc)) _ _ _
 refine wpAny_assign_Name (rQ I' hN hi0 (.inl hx) (v:=.ref acc) rfl (fun s'' I'' hch=>?_) (.inr hx))
 obtain⟨h1,h2,h3,h4,h5,h6⟩:=I2.oB (H':=H') hle hC
 obtain⟨a,hsb,ha⟩:=hch
 refine⟨m,hn.sameBut hsb ?_,fun h' hsb'=>⟨_,H',I2.yE I'' hC hle hsb',q⟩⟩
 rcases ha with ha | ha
 ·rw [ha];exact h2
 ·exact fun z=>h5 y a ha z.symm
end
theorem m9 {K:Gh}{a acc:Addr}{xs:List V}{n:Nat}{js:List Nat}{g:TG}{ct:TT}{te:TE}{Gf : St}{H1:Hp}{Q:VK}(Pv:Nat->List V->St->Hp->Prop)(h0:Pv 0 [] (nW n js Gf) (upd H1 acc (.lst [])))
  (hl:∀i ys Gg H,i<=xs.length->Pv i ys Gg H->aO K H a xs/\H acc=some (.lst ys)/\ys.length<sizeLine)
  (hs:∀i x ys Gg H,xs[i]?=some x->Pv i ys Gg H->g x Gg H fun τ1 H4=>ct τ1 H4 fun b H5=>if b=true then te τ1 H5 fun y H6=>H6 acc=some (.lst ys)/\Pv (i+1) (ys++[y]) τ1 (upd H6 acc (.lst (ys++[y]))) else Pv (i+1) ys τ1 H5)
  (hd:∀ys Gg H,Pv xs.length ys Gg H->Q (.ref acc) H) :
  vY (vH K a) n js g ct te acc Gf H1 Q:=by
 refine⟨fun i m ys Gg H=>m=xs.length-i/\i<=xs.length/\Pv i ys Gg H,⟨xs.length,by simp,GI _,h0⟩,?_⟩
 rintro i m ys Gg H ⟨rfl,hi,p⟩
 obtain⟨q,q2,q3⟩:=hl i ys Gg H hi p
 refine⟨q2,q3,?_⟩
 by_cases hlt:i<xs.length
 ·refine .inr ⟨⟨xs,xs[i],q,by simp [hlt]⟩,Pv (i+1),fun ys' τ' H' p'=>⟨xs.length-(i+1),by omega,rfl,hlt,p'⟩,fun x H' y=>?_⟩
  obtain⟨e,y⟩:=y
  subst e
  exact hs i x ys Gg _ (y xs q) p
 ·have e:i=xs.length:=by omega
  subst e
  exact .inl ⟨⟨xs,q,Gj _⟩,hd ys Gg H p⟩
theorem pQ {K:Gh}{a acc:Addr}{xs:List V}{n:Nat}{js:List Nat}{g:TG}{ct:TT}{te:TE}{Gf : St}{H1:Hp}{Q:VK}(Pv:Nat->List V->St->Hp->Prop)(h0:Pv 0 [] (nW n js Gf) (upd H1 acc (.lst [])))
  (hl:∀i ys Gg H,i<=xs.length->Pv i ys Gg H->av K H a xs/\H acc=some (.lst ys)/\ys.length<sizeLine)
  (hs:∀i x ys Gg H,xs[i]?=some x->Pv i ys Gg H->g x Gg H fun τ1 H4=>ct τ1 H4 fun b H5=>if b=true then te τ1 H5 fun y H6=>H6 acc=some (.lst ys)/\Pv (i+1) (ys++[y]) τ1 (upd H6 acc (.lst (ys++[y]))) else Pv (i+1) ys τ1 H5)
  (hd:∀ys Gg H,Pv xs.length ys Gg H->Q (.ref acc) H) :
  vY (vI K a) n js g ct te acc Gf H1 Q:=by
 refine⟨fun i m ys Gg H=>m=xs.length-i/\i<=xs.length/\Pv i ys Gg H,⟨xs.length,by simp,GI _,h0⟩,?_⟩
 rintro i m ys Gg H ⟨rfl,hi,p⟩
 obtain⟨q,q2,q3⟩:=hl i ys Gg H hi p
 refine⟨q2,q3,?_⟩
 by_cases hlt:i<xs.length
 ·refine .inr ⟨⟨xs,xs[i],q,by simp [hlt]⟩,Pv (i+1),fun ys' τ' H' p'=>⟨xs.length-(i+1),by omega,rfl,hlt,p'⟩,fun x H' y=>?_⟩
  obtain⟨e,y⟩:=y
  subst e
  exact hs i x ys Gg _ (y xs q) p
 ·have e:i=xs.length:=by omega
  subst e
  exact .inl ⟨⟨xs,q,Gj _⟩,hd ys Gg H p⟩
theorem oH {lo:Int}{k:Nat}{acc:Addr}{n:Nat}{js:List Nat}{g:TG}{ct:TT}{te:TE}{Gf : St}{H1:Hp}{Q:VK}(Pv:Nat->List V->St->Hp->Prop)(h0:Pv 0 [] (nW n js Gf) (upd H1 acc (.lst [])))
  (hl:∀i ys Gg H,i<=k->Pv i ys Gg H->H acc=some (.lst ys)/\ys.length<sizeLine)
  (hs:∀i ys Gg H,i<k->Pv i ys Gg H->g (.int (lo+i)) Gg H fun τ1 H4=>ct τ1 H4 fun b H5=>if b=true then te τ1 H5 fun y H6=>H6 acc=some (.lst ys)/\Pv (i+1) (ys++[y]) τ1 (upd H6 acc (.lst (ys++[y]))) else Pv (i+1) ys τ1 H5)
  (hd:∀ys Gg H,Pv k ys Gg H->Q (.ref acc) H) :
  vY (tR lo k) n js g ct te acc Gf H1 Q:=by
 refine⟨fun i m ys Gg H=>m=k-i/\i<=k/\Pv i ys Gg H,⟨k,by simp,GI _,h0⟩,?_⟩
 rintro i m ys Gg H ⟨rfl,hi,p⟩
 obtain⟨q2,q3⟩:=hl i ys Gg H hi p
 refine⟨q2,q3,?_⟩
 by_cases hlt:i<k
 ·refine .inr ⟨hlt,Pv (i+1),fun ys' τ' H' p'=>⟨k-(i+1),by omega,rfl,hlt,p'⟩,fun x H' y=>?_⟩
  obtain⟨e,y⟩:=y
  subst e y
  exact hs i ys Gg _ hlt p
 ·have e:i=k:=by omega
  subst e
  exact .inl ⟨Gj _,hd ys Gg H p⟩
section
variable {X:Cx}
end
def Fy (t:TS):TS:=fun D Gf H=>∃M:St->Hp->Prop,t { D with nx:=M } Gf H/\∀σ' H',M σ' H'->D.nx σ' H'
theorem dQ {X:Cx}{st:Stmt}{t:TS}(h:PS X st t):PS X st (Fy t):=by
 intro pins s Gf H D I q
 obtain⟨M,q,hM⟩:=q
 refine bB (h pins s Gf H _ I q) fun f s' hs=>?_
 cases f with
 | next =>
  obtain⟨σ',H',I',m⟩:=hs
  exact⟨σ',H',I',hM _ _ m⟩
 | brk=>exact hs
 | cont=>exact hs
 | ret u=>exact hs
theorem ke {m:Int}(h0:0<m)(h1:m<1073741824):m.natAbs.log2<9000:=by
 have h:m.natAbs.log2<30:=(Nat.log2_lt (by omega)).mpr (by omega)
 omega
theorem qQ {X:Cx}{K:Gh}{es:List Expr}{k:Nat}{t:tQ}{n:Nat}{pos:Pos}(hK:X.K=K)(h:PG X (.Tuple es k pos) (zS X.K n t)):PG X (.Tuple es k pos) (zS K n t):=by
 subst hK
 exact h
mutual
inductive aX (H:Hp):V->PyData->Prop
 | aZ:aX H .aZ .none
 | bl (b:Bool):aX H (.bl b) (.bool b)
 | int (i:Int):aX H (.int i) (.int i)
 | str (x:Str):aX H (.str x) (.str x)
 | lst {p:Addr} {xs:List V} {ds:List PyData}:H p=some (.lst xs)->bu H xs ds->aX H (.ref p) (.list ds)
 | tup {p:Addr} {xs:List V} {ds:List PyData}:H p=some (.tup xs)->bu H xs ds->aX H (.ref p) (.tuple ds)
inductive bu (H:Hp):List V->List PyData->Prop
 | nil:bu H [] []
 | cons {x:V} {xs:List V} {d:PyData} {ds:List PyData}:aX H x d->bu H xs ds->bu H (x::xs) (d::ds)
end
section
variable {P:Program}{w:World}{H:Hp}{h:Heap}
mutual
theorem aX.reads (ok:dn P w H h):∀{x:V} {d:PyData} {v:Value},aX H x d->RelV x v->∃as,Reads h v d as
 | _,_,v,.aZ,r=>by
  cases (show v=Value.none from r)
  exact⟨_,.none⟩
 | _,_,v,.bl b,r=>by
  cases (show v=Value.bool b from r)
  exact⟨_,.bool b⟩
 | _,_,v,.int i,r=>by
  obtain⟨t,e⟩:=(show ∃t,v=Value.int i t from r)
  cases e
  exact⟨_,.int i t⟩
 | _,_,v,.str x,r=>by
  obtain⟨t,e⟩:=(show ∃t,v=Value.str x t from r)
  cases e
  exact⟨_,.str x t⟩
 | _,_,v,.lst (p:=p) (xs:=xs) e ds,r=>by
  cases (show v=Value.ref p from r)
  obtain⟨_,its,n,rv,h1⟩:=(show bM P w H h p (.lst xs) from ok p _ e)
  obtain⟨as,ra⟩:=bu.reads ok ds rv
  exact⟨_,.list (vs:=its.toArray) h1 rfl rfl (by simpa using ra)⟩
 | _,_,v,.tup (p:=p) (xs:=xs) e ds,r=>by
  cases (show v=Value.ref p from r)
  obtain⟨_,its,rv,o,h1,h2,n,h3⟩:=(show bM P w H h p (.tup xs) from ok p _ e)
  obtain⟨as,ra⟩:=bu.reads ok ds rv
  exact⟨_,.tuple (vs:=its.toArray) h1 h2 h3.1 (by simpa using ra)⟩
theorem bu.reads (ok:dn P w H h):∀{xs:List V} {ds:List PyData} {vs:List Value},bu H xs ds->Vals xs vs->∃as,ReadsAll h vs ds as
 | _,_,_,.nil,.nil=>⟨_,.nil⟩
 | _,_,_,.cons r rs,.cons q qs=>by
  obtain⟨as,ra⟩:=aX.reads ok r q
  obtain⟨bs,rb⟩:=bu.reads ok rs qs
  exact⟨_,.cons ra rb⟩
end
end
section
variable {X:Cx}
inductive DE (neg:Bool) (x:V) (y:V) (H:Hp) (Q:VK):Prop
 | mk (dx dy:_) (_:aX H x dx) (_:aX H y dy) (_:dx.canLay0=true) (_:dy.canLay0=true) (_:min dx.depth dy.depth<=60) (_:Q (.bl (if neg then !PyData.eqv dx dy else PyData.eqv dx dy)) H)
theorem tW (hu:X.A.units+64<cLine):eG X (compareOp .Eq) (DE false):=by
 intro pins s Gf H x y v u Q I rx ry h
 obtain⟨dx,dy,r1,r2,c1,c2,hd,q⟩:=h
 obtain⟨as,ra⟩:=r1.reads I.aL rx
 obtain⟨bs,rb⟩:=r2.reads I.aL ry
 exact PySem.SeqAt.compareEq_reads ra rb c1 c2 (by omega) ⟨.bl _,H,I,rfl,q⟩
theorem yF (hu:X.A.units+64<cLine):eG X (compareOp .NotEq) (DE true):=by
 intro pins s Gf H x y v u Q I rx ry h
 obtain⟨dx,dy,r1,r2,c1,c2,hd,q⟩:=h
 obtain⟨as,ra⟩:=r1.reads I.aL rx
 obtain⟨bs,rb⟩:=r2.reads I.aL ry
 exact PySem.SeqAt.neOverData X.prog X.w X.A X.xe s v u dx dy as bs _ ra rb c1 c2 (by omega) ⟨.bl _,H,I,rfl,q⟩
end
def one (c:Nat):Str:=⟨#[c]⟩
theorem tX (rest:List Str):∀a:Array Nat,(rest.foldl (fun acc p=>acc++Str.empty.cps++p.cps) a).toList=a.toList++rest.flatMap (·.cps.toList):=by
 induction rest with
 | nil=>intro a;simp
 | cons x r ih =>
  intro a
  rw [HI,ih]
  have e:Str.empty.cps = #[]:=rfl
  simp [e]
theorem join_ones (cs:List Nat):(Txt.join Str.empty (cs.map one)).cps.toList=cs:=by
 cases cs with
 | nil=>rfl
 | cons c r =>
  show (List.foldl (fun acc p=>acc++Str.empty.cps++p.cps) (#[c]:Array Nat) (r.map one)).toList=c::r
  rw [tX]
  simp only [List.flatMap_map,one]
  simp
theorem Ai:Str.ofString "" = Str.empty:=by decide +kernel
theorem xq {ys:List Str}:∀{us:List Value},Vals (ys.map V.str) us->StrsAre us ys:=by
 induction ys with
 | nil=>intro us r;cases r;exact .nil
 | cons y ys ih =>
  intro us r
  cases r with
  | cons h t =>
   obtain⟨k,e⟩:=h
   subst e
   exact .cons y k (ih t)
section
variable {X:Cx}
inductive rJoin (K:Gh) (x:V) (vs:List V) (H:Hp) (Q:VK):Prop
 | mk (z:Str) (p:Addr) (ys:List Str) (_:x=.str z) (_:vs=[.ref p]) (_:aO K H p (ys.map V.str)) (_:(ys.map (·.length)).sum+ys.length*z.length<=16777216) (_:Q (.str (Txt.join z ys)) H)
theorem v5:Dt X "str.join" (rJoin X.K):=by
 intro pins s Gf H x vs v us Q I rx rv h
 obtain⟨z,p,ys,rfl,rfl,hS,hz,q⟩:=h
 obtain⟨t,e⟩:=(show ∃t,v=Value.str z t from rx)
 subst e
 obtain⟨u,rfl,ru⟩:=vals1 rv
 cases (show u=Value.ref p from ru)
 obtain⟨its,rv',pl,_⟩:=I.list hS
 exact join_list pl.isList (by simpa using xq rv') hz fun t' k=>⟨.str _,H,I.tok k,⟨_,rfl⟩,q⟩
end
inductive di where
 | put (x:Str) (n:Int)
 | copy (x y:Str)
 | add (x:Str) (n:Int)
 | read (x:Str)
 | tell (x:Str)
inductive End where
 | stop
 | go (p:Nat)
 | cF (less:Bool) (x:Str) (n:Int) (p q:Nat)
abbrev Piece:=List di×End
def wT (b:Bool):Str:=if b=true then "less" else "is"
def dB:di->PyData
 | .put x n=>.tuple [.str "put",.str x,.int n]
 | .copy x y=>.tuple [.str "copy",.str x,.str y]
 | .add x n=>.tuple [.str "add",.str x,.int n]
 | .read x=>.tuple [.str "read",.str x]
 | .tell x=>.tuple [.str "tell",.str x]
def jm:End->PyData
 | .stop=>.tuple [.str "stop"]
 | .go p=>.tuple [.str "go",.int p]
 | .cF b x n p q=>.tuple [.str (wT b),.str x,.int n,.int p,.int q]
def bW (p:Piece):PyData:=.tuple [.tuple (p.1.map dB),jm p.2]
def eD (ps:List Piece):PyData:=.tuple (ps.map bW)
structure dH (x:Str):Prop where
 lo:1<=x.length
 hi:x.length<=8
 az:∀c∈x.cps.toList,97<=c/\c<=122
def kA (n:Int):Prop:=-(10 ^ 40)<n/\n<10 ^ 40
def ft (xs:List Str):di->Prop
 | .put x n=>x∈xs/\kA n
 | .copy x y=>x∈xs/\y∈xs
 | .add x n=>x∈xs/\kA n
 | .read x=>x∈xs
 | .tell x=>x∈xs
def i7 (xs:List Str)(count:Nat):End->Prop
 | .stop=>True
 | .go p=>p<count
 | .cF _ x n p q=>x∈xs/\kA n/\p<count/\q<count
structure b8 (xs:List Str) (most:Nat) (ps:List Piece):Prop where
 gU:∀p∈ps,p.1.length<=most/\∀d∈p.1,ft xs d
 ends:∀p∈ps,i7 xs ps.length p.2
mutual
def cq:PyData->Bool
 | .list _=>false
 | .tuple xs=>b4 xs
 | _=>true
def b4:List PyData->Bool
 | []=>true
 | x::xs=>cq x&&b4 xs
end
mutual
theorem aX.aK {H H':Hp}(k:∀p xs,H p=some (.tup xs)->H' p=some (.tup xs)):∀{x:V} {d:PyData},aX H x d->cq d=true->aX H' x d
 | _,_,.aZ,_=>.aZ
 | _,_,.bl b,_=>.bl b
 | _,_,.int i,_=>.int i
 | _,_,.str x,_=>.str x
 | _,_,.lst _ _,h=>nomatch h
 | _,_,.tup e ds,h=>.tup (k _ _ e) (bu.aK k ds h)
theorem bu.aK {H H':Hp}(k:∀p xs,H p=some (.tup xs)->H' p=some (.tup xs)):∀{xs:List V} {ds:List PyData},bu H xs ds->b4 ds=true->bu H' xs ds
 | _,_,.nil,_=>.nil
 | _,_,.cons r rs,h=>by
  simp only [b4,G3] at h
  exact .cons (aX.aK k r h.1) (bu.aK k rs h.2)
end
theorem aX.fix {b:Addr}{H H':Hp}{x:V}{d:PyData}(r:aX H x d)(hb:cH H b)(f:Fix b H H')(n:cq d=true):aX H' x d :=
 r.aK (fun p xs e=>f p _ e (hb.gK e)) n
theorem aX.same {H H':Hp}{x:V}{d:PyData}(r:aX H x d)(f:af H H')(n:cq d=true):aX H' x d :=
 r.aK (fun p xs e=>f p _ e) n
theorem bu.fix {b:Addr}{H H':Hp}{xs:List V}{ds:List PyData}(r:bu H xs ds)(hb:cH H b)(f:Fix b H H')(n:b4 ds=true):bu H' xs ds :=
 r.aK (fun p xs e=>f p _ e (hb.gK e)) n
theorem bu.same {H H':Hp}{xs:List V}{ds:List PyData}(r:bu H xs ds)(f:af H H')(n:b4 ds=true):bu H' xs ds :=
 r.aK (fun p xs e=>f p _ e) n
theorem bu.put {H:Hp}{xs ys:List V}{ds:List PyData}{l:Addr}{o:HO}(r:bu H xs ds)(hl:H l=some (.lst ys))(n:b4 ds=true):bu (upd H l o) xs ds :=
 r.aK (fun p zs e=>by rw [ao (bw e hl (by intro z;cases z))];exact e) n
theorem bu.app {H:Hp}{x:V}{d:PyData}:∀{xs:List V} {ds:List PyData},bu H xs ds->aX H x d->bu H (xs++[x]) (ds++[d])
 | _,_,.nil,q=>.cons q .nil
 | _,_,.cons r rs,q=>.cons r (bu.app rs q)
theorem bu.len {H:Hp}:∀{xs:List V} {ds:List PyData},bu H xs ds->xs.length=ds.length
 | _,_,.nil=>rfl
 | _,_,.cons _ rs=>by simp [bu.len rs]
theorem nX (d:di):cq (dB d)=true:=by cases d <;> rfl
theorem kB (e:End):cq (jm e)=true:=by cases e <;> rfl
theorem cU:∀ds:List di,b4 (ds.map dB)=true
 | []=>rfl
 | d::ds=>by show (cq (dB d)&&b4 (ds.map dB))=true;rw [nX,cU ds];rfl
theorem eY (p:Piece):cq (bW p)=true:=by
 show (b4 (p.1.map dB)&&(cq (jm p.2)&&true))=true
 rw [cU,kB];rfl
theorem aS:∀ps:List Piece,b4 (ps.map bW)=true
 | []=>rfl
 | p::ps=>by show (cq (bW p)&&b4 (ps.map bW))=true;rw [eY,aS ps];rfl
theorem dN (ps:List Piece):cq (eD ps)=true:=aS ps
structure fV (H:Hp) (b l:Addr) (xs:List Str):Prop where
 at_:H l=some (.lst (xs.map V.str))
 ne:l≠b
 xr:xs≠[]
 cX:xs.length<=1000
 ok:∀x∈xs,dH x
theorem fV.fix {H H':Hp}{b l:Addr}{xs:List Str}(h:fV H b l xs)(f:Fix b H H'):fV H' b l xs:=⟨f l _ h.at_ h.ne,h.ne,h.xr,h.cX,h.ok⟩
theorem fV.pos {H:Hp}{b l:Addr}{xs:List Str}(h:fV H b l xs):0<((xs.map V.str).length:Int)/\((xs.map V.str).length:Int)<1073741824:=by
 have h1:=h.xr
 have h2:=h.cX
 have h3:0<xs.length:=by cases xs with | nil=>exact absurd rfl h1 | cons _ _=>simp
 rw [Gi]
 omega
inductive v7  (vs:List V) (H:Hp) (Q:VK) (_:XK):Prop
 | mk (b:Addr) (_:vs=[.ref b]) (_:cH H b) (_:∀l xs H',fV H' b l xs->xs.length<=4->cH H' b->Fix b H H'->Q (.ref l) H')
inductive oJ  (vs:List V) (H:Hp) (Q:VK) (_:XK):Prop
 | mk (b:Addr) (_:vs=[.ref b]) (_:cH H b) (_:∀n H',kA n->cH H' b->Fix b H H'->Q (.int n) H')
inductive yG  (vs:List V) (H:Hp) (Q:VK) (_:XK):Prop
 | mk (b l:Addr) (xs:List Str) (_:vs=[.ref b,.ref l]) (_:cH H b) (_:fV H b l xs) (_:∀v d H',aX H' v (dB d)->ft xs d->cH H' b->Fix b H H'->Q v H')
inductive yH  (vs:List V) (H:Hp) (Q:VK) (_:XK):Prop
 | mk (b l:Addr) (xs:List Str) (c:Nat) (_:vs=[.ref b,.ref l,.int c]) (_:cH H b) (_:fV H b l xs) (_:0<c) (_:c<1073741824) (_:∀v e H',aX H' v (jm e)->i7 xs c e->cH H' b->Fix b H H'->Q v H')
inductive yI  (vs:List V) (H:Hp) (Q:VK) (_:XK):Prop
 | mk (b:Addr) (c m:Nat) (_:vs=[.ref b,.int c,.int m]) (_:cH H b) (_:0<c) (_:c<=1000) (_:m<=1000) (_:∀v xs ps H',aX H' v (eD ps)->ps.length=c->b8 xs m ps->((∀x∈xs,dH x)/\xs.length<=4)->cH H' b->Fix b H H'->Q v H')
def pR:Str := "abcdefghijklmnopqrstuvwxyz"
theorem tY:pR.cps.toList=(G4 26).map (· + 97):=by decide +kernel
theorem v9:pR.length<=sizeLine:=by decide +kernel
theorem yJ {r:Int}(h0:0<=r)(h1:r<26):∃c,fq pR.cps.toList r=some c/\97<=c/\c<=122:=by
 have hl:pR.cps.toList.length=26:=by rw [tY];simp
 obtain⟨c,hc,hm⟩:=xp (xs:=pR.cps.toList) h0 (by rw [hl];exact h1)
 refine⟨c,hc,?_⟩
 rw [tY] at hm
 obtain⟨k,hk,rfl⟩:=GL.mp hm
 have:=HB.mp hk
 omega
theorem oM {xs:List Str}{r:Int}(h0:0<=r)(h1:r<((xs.map V.str).length:Int)):∃x,fq (xs.map V.str) r=some (V.str x)/\x∈xs:=by
 obtain⟨v,hv,hm⟩:=xp h0 h1
 obtain⟨x,hx,rfl⟩:=GL.mp hm
 exact⟨x,hv,hx⟩
theorem jR {Gf : L2.St}{H:Hp}{Q:Bool->Hp->Prop}(h:Q true H):DD Gf H Q:=h
theorem bJ {i:Nat}{v:V}{Gf : L2.St}{H:Hp}{Q:L2.St->Hp->Prop}(h:Q (Gf.set i (some v)) H):m5 i v Gf H Q:=h
section
variable {κ : Type}[DecidableEq κ]
def b5 (kvs:List (κ×V))(k:κ):Option V:=(kvs.find? fun kv=>decide (kv.1=k)).map (·.2)
def putK (kvs:List (κ×V))(k:κ)(v:V):List (κ×V) :=
 if (kvs.any fun kv=>decide (kv.1=k))=true then kvs.map (fun kv=>if kv.1=k then (kv.1,v) else kv) else kvs++[(k,v)]
def fg (kvs:List (κ×V))(k:κ):List (κ×V):=kvs.filter fun kv=>decide (kv.1≠k)
theorem dC {p:κ×V}{r:List (κ×V)}{k:κ}(e:p.1=k):b5 (p::r) k=some p.2:=by simp [b5,HJ,e]
theorem dm {p:κ×V}{r:List (κ×V)}{k:κ}(e:¬p.1=k):b5 (p::r) k=b5 r k:=by simp [b5,HJ,e]
theorem ip (k:κ):∀kvs:List (κ×V),(kvs.any fun kv=>decide (kv.1=k))=(b5 kvs k).isSome
 | []=>rfl
 | p::r=>by
  rw [HH]
  by_cases e:p.1=k
  ·simp only [dC e,decide_eq_true e,Bool.true_or,Option.isSome_some]
  ·rw [dm e,decide_eq_false e,Bool.false_or];exact ip k r
theorem tZ (k j:κ)(y:V):∀kvs:List (κ×V),b5 (kvs.map fun kv=>if kv.1=k then (kv.1,y) else kv) j=(b5 kvs j).map fun x=>if j=k then y else x
 | []=>rfl
 | p::r=>by
  have ih:=tZ k j y r
  rw [GK]
  by_cases h:p.1=k
  ·rw [if_pos h]
   by_cases e:p.1=j
   ·rw [dC (p:=(p.1,y)) e,dC e,Io,if_pos (e.symm.trans h)]
   ·rw [dm (p:=(p.1,y)) e,dm e,ih]
  ·rw [if_neg h]
   by_cases e:p.1=j
   ·rw [dC (p:=p) e,dC e,Io,if_neg (fun z=>h (e.trans z))]
   ·rw [dm (p:=p) e,dm e,ih]
theorem rZ (k j:κ)(y:V):∀kvs:List (κ×V),b5 kvs k=none->b5 (kvs++[(k,y)]) j=if j=k then some y else b5 kvs j
 | [],_=>by
  by_cases e:k=j
  ·rw [if_pos e.symm];exact dC (p:=(k,y)) e
  ·rw [if_neg (fun z=>e z.symm)];exact dm (p:=(k,y)) e
 | p::r,hn=>by
  rw [List.cons_append]
  have hk:¬p.1=k:=fun z=>by rw [dC z] at hn;cases hn
  rw [dm hk] at hn
  have ih:=rZ k j y r hn
  by_cases e:p.1=j
  ·rw [dC e,dC e,if_neg (fun z=>hk (e.trans z))]
  ·rw [dm e,dm e,ih]
theorem Aj (kvs:List (κ×V))(k j:κ)(y:V):b5 (putK kvs k y) j=if j=k then some y else b5 kvs j:=by
 unfold putK
 by_cases a:(kvs.any fun kv=>decide (kv.1=k))=true
 ·rw [if_pos a,tZ]
  rw [ip] at a
  by_cases e:j=k
  ·obtain⟨x,hx⟩:=Option.isSome_iff_exists.mp a
   rw [if_pos e,e,hx,Io,if_pos rfl]
  ·rw [if_neg e]
   cases b5 kvs j with
   | none=>rfl
   | some x=>rw [Io,if_neg e]
 ·rw [if_neg a]
  refine rZ k j y kvs ?_
  rw [ip] at a
  cases q:b5 kvs k with
  | none=>rfl
  | some x=>rw [q] at a;exact (a rfl).elim
theorem nY (kvs:List (κ×V))(k:κ)(v:V):(putK kvs k v).length<=kvs.length+1:=by
 unfold putK
 split
 ·rw [Gi];omega
 ·rw [Gq,G0,Ip];omega
theorem Ak {kvs:List (κ×V)}{k:κ}(v:V)(h:b5 kvs k=none):putK kvs k v=kvs++[(k,v)]:=by
 unfold putK
 rw [ip,h]
 exact if_neg (by decide)
theorem eW.yK {o:Option V}{u:Option Value}(r:eW o u):o.isSome=u.isSome:=by
 cases o with
 | none=>cases u with
  | none=>rfl
  | some _=>exact (show False from r).elim
 | some _=>cases u with
  | none=>exact (show False from r).elim
  | some _=>rfl
theorem eW.getD {o:Option V}{u:Option Value}{d:V}{d':Value}(r:eW o u)(rd:RelV d d'):RelV (o.getD d) (u.getD d'):=by
 cases o with
 | none=>cases u with
  | none=>exact rd
  | some _=>exact (show False from r).elim
 | some _=>cases u with
  | none=>exact (show False from r).elim
  | some _=>exact r
theorem KV.val {kvs:List (κ×V)}{vs:List (κ×Value)}(r:KV kvs vs)(k:κ):eW (b5 kvs k) (valueAt vs k):=by
 unfold KV at r
 induction r with
 | nil=>exact True.intro
 | @cons p q ps qs h t ih =>
  obtain⟨h1,h2⟩:=h
  by_cases e:p.1=k
  ·have e':q.1=k:=h1.symm.trans e
   have b:valueAt (q::qs) k=some q.2:=by simp [valueAt,HJ,e']
   rw [dC e,b];exact h2
  ·have e':¬q.1=k:=fun z=>e (h1.trans z)
   have b:valueAt (q::qs) k=valueAt qs k:=by simp [valueAt,HJ,e']
   rw [dm e,b];exact ih
theorem KV.any {kvs:List (κ×V)}{vs:List (κ×Value)}(r:KV kvs vs)(k:κ):(kvs.any fun kv=>decide (kv.1=k))=vs.any fun kv=>decide (kv.1=k):=by
 unfold KV at r
 induction r with
 | nil=>rfl
 | cons h t ih=>rw [HH,HH,ih,h.1]
theorem KV.Al {kvs:List (κ×V)}{vs:List (κ×Value)}(r:KV kvs vs)(k:κ){y:V}{u:Value}(ry:RelV y u) :
  KV (kvs.map fun kv=>if kv.1=k then (kv.1,y) else kv) (vs.map fun kv=>if kv.1=k then (kv.1,u) else kv):=by
 unfold KV at r ⊢
 induction r with
 | nil=>exact .nil
 | @cons p q ps qs h t ih =>
  rw [GK,GK]
  refine .cons ?_ ih
  obtain⟨h1,h2⟩:=h
  by_cases e:p.1=k
  ·rw [if_pos e,if_pos (h1.symm.trans e)];exact⟨h1,ry⟩
  ·rw [if_neg e,if_neg (fun z=>e (h1.trans z))];exact⟨h1,h2⟩
theorem KV.put {kvs:List (κ×V)}{vs:List (κ×Value)}(r:KV kvs vs)(k:κ){y:V}{u:Value}(ry:RelV y u):KV (putK kvs k y) (stored vs k u):=by
 unfold putK stored
 rw [r.any k]
 by_cases e:(vs.any fun kv=>decide (kv.1=k))=true
 ·rw [if_pos e,if_pos e];exact r.Al k ry
 ·rw [if_neg e,if_neg e];exact Paired.snoc r ⟨rfl,ry⟩
theorem KV.drop {kvs:List (κ×V)}{vs:List (κ×Value)}(r:KV kvs vs)(k:κ):KV (fg kvs k) (without vs k):=by
 unfold KV at r ⊢
 unfold fg without
 induction r with
 | nil=>exact .nil
 | @cons p q ps qs h t ih =>
  obtain⟨h1,h2⟩:=h
  rw [Iq,Iq]
  by_cases e:p.1=k
  ·have a:¬decide (p.1≠k)=true:=by simp [e]
   have b:¬decide (q.1≠k)=true:=by simp [h1.symm.trans e]
   rw [if_neg a,if_neg b];exact ih
  ·have e':¬q.1=k:=fun z=>e (h1.trans z)
   have a:decide (p.1≠k)=true:=by simp [e]
   have b:decide (q.1≠k)=true:=by simp [e']
   rw [if_pos a,if_pos b];exact .cons ⟨h1,h2⟩ ih
theorem KV.keys {kvs:List (κ×V)}{vs:List (κ×Value)}(r:KV kvs vs):kvs.map (·.1)=vs.map (·.1):=by
 unfold KV at r
 induction r with
 | nil=>rfl
 | cons h t ih=>rw [GK,GK,ih,h.1]
theorem KV.length {kvs:List (κ×V)}{vs:List (κ×Value)}(r:KV kvs vs):kvs.length=vs.length:=Paired.length r
theorem Am (kvs:List (κ×V))(k:κ):(fg kvs k).length<=kvs.length:=Hy _ _
end
theorem kC {P:Program}{w:World}{k:Key}{u:Value}(r:RelV (kV k) u):(aQ P w).is k u=true:=by
 cases k with
 | inl i=>obtain⟨t,e⟩:=(show ∃t,u=Value.int i t from r);subst e;exact nO P w i t
 | inr x=>obtain⟨t,e⟩:=(show ∃t,u=Value.str x t from r);subst e;exact nQ P w x t
theorem r9 {P:Program}{w:World}:∀{ks:List Key} {us:List Value},Vals (ks.map kV) us->ItemsAre (aQ P w) ks us
 | [],_,r=>by rw [Il] at r;cases r;exact .nil
 | k::ks,_,r=>by
  rw [GK] at r
  cases r with
  | cons h t=>exact .cons (kC h) (r9 t)
abbrev KT (H:Hp):List (List Key×V)->List (List Key×Addr×Value)->Prop:=Paired fun p q=>p.1=q.1/\H q.2.1=some (.tup (p.1.map kV))/\RelV p.2 q.2.2
theorem KT.val {H:Hp}{kvs:List (List Key×V)}{xs:List (List Key×Addr×Value)}(r:KT H kvs xs)(k:List Key):eW (b5 kvs k) ((atKey xs k).map (·.2)):=by
 induction r with
 | nil=>exact True.intro
 | @cons p q ps qs h t ih =>
  obtain⟨h1,_,h2⟩:=h
  by_cases e:p.1=k
  ·have e':q.1=k:=h1.symm.trans e
   have b:atKey (q::qs) k=some q.2:=by simp [atKey,HJ,e']
   rw [dC e,b];exact h2
  ·have e':¬q.1=k:=fun z=>e (h1.trans z)
   have b:atKey (q::qs) k=atKey qs k:=by simp [atKey,HJ,e']
   rw [dm e,b];exact ih
theorem KT.Al {H:Hp}{kvs:List (List Key×V)}{xs:List (List Key×Addr×Value)}(r:KT H kvs xs)(k:List Key){y:V}{u:Value}(ry:RelV y u) :
  KT H (kvs.map fun kv=>if kv.1=k then (kv.1,y) else kv) (xs.map (putAt k u)):=by
 induction r with
 | nil=>exact .nil
 | @cons p q ps qs h t ih =>
  rw [GK,GK]
  refine .cons ?_ ih
  obtain⟨h1,h2,h3⟩:=h
  unfold putAt
  by_cases e:p.1=k
  ·rw [if_pos e,if_pos (h1.symm.trans e)];exact⟨h1,h2,ry⟩
  ·rw [if_neg e,if_neg (fun z=>e (h1.trans z))];exact⟨h1,h2,h3⟩
theorem KT.put {H:Hp}{kvs:List (List Key×V)}{xs:List (List Key×Addr×Value)}(r:KT H kvs xs)(k:List Key){b:Addr}{y:V}{u:Value}(hb:H b=some (.tup (k.map kV)))(ry:RelV y u) :
  KT H (putK kvs k y) (storedH xs k b u):=by
 have e:(kvs.any fun kv=>decide (kv.1=k))=(atKey xs k).isSome:=by
  rw [ip,(r.val k).yK,Option.isSome_map]
 unfold putK storedH
 rw [e]
 by_cases q:(atKey xs k).isSome=true
 ·rw [if_pos q,if_pos q];exact r.Al k ry
 ·rw [if_neg q,if_neg q];exact Paired.snoc r ⟨rfl,hb,ry⟩
theorem KT.keeps {H H':Hp}{kvs:List (List Key×V)}{xs:List (List Key×Addr×Value)}(r:KT H kvs xs)(ht:∀b ys,H b=some (.tup ys)->H' b=some (.tup ys)):KT H' kvs xs :=
 Paired.zM r fun _ _ z=>⟨z.1,ht _ _ z.2.1,z.2.2⟩
section
variable {P:Program}{w:World}{H:Hp}{h:Heap}{a:Addr}
theorem By {u:HO}(ok:dn P w H h)(e:Rd H a u):bM P w H h a u:=e.ok ok
theorem nc {kvs:List (Key×V)}(ok:dn P w H h)(e:Rd H a (.dK kvs)):kvs.length<=sizeLine/\(a == sysModules)=false/\∃vs,KV kvs vs/\h.DictOf (aQ P w) a vs :=
 show bM P w H h a (.dK kvs) from By ok e
theorem ng {kvs:List (Key×V)}(ok:dn P w H h)(e:H a=some (.dK kvs)):kvs.length<=sizeLine/\(a == sysModules)=false/\∃vs,KV kvs vs/\h.DictOf (aQ P w) a vs:=nc ok (.inl e)
theorem pS {ks:List Key}(ok:dn P w H h)(e:H a=some (.tup (ks.map kV))):(tupleKind (aQ P w)).is h ks a:=by
 obtain⟨_,its,r,o,h1,h2,n,h3⟩:=(show bM P w H h a (.tup (ks.map kV)) from ok a _ e)
 exact⟨o,its.toArray,n,h1,h2,h3.1,by simpa using r9 r⟩
theorem pT {kvs:List (List Key×V)}(ok:dn P w H h)(e:Rd H a (.dT kvs)):kvs.length<=sizeLine/\(a == sysModules)=false /\
  ∃xs,KT H kvs xs/\h.DictOfH (tupleKind (aQ P w)) a xs:=by
 obtain⟨z,y,xs,r,o,es,ep,h1,h2,h3,h4,h5⟩:=(show bM P w H h a (.dT kvs) from By ok e)
 refine⟨z,y,xs,r,o,es,ep,h1,h2,h3,h4,fun x hx=>?_,h5⟩
 have all:∀{l:List (List Key×V)} {m:List (List Key×Addr×Value)},KT H l m->∀x∈m,(tupleKind (aQ P w)).is h x.1 x.2.1:=by
  intro l m q
  induction q with
  | nil=>intro x hx;exact nomatch hx
  | @cons p q ps qs hq t ih =>
   intro x hx
   rcases Gn.mp hx with e | hx
   ·subst e
    exact pS ok (by rw [<-hq.1];exact hq.2.1)
   ·exact ih x hx
 exact all r x hx
theorem EB {kvs:List (List Key×V)}(ok:dn P w H h)(e:H a=some (.dT kvs)):kvs.length<=sizeLine/\(a == sysModules)=false /\
  ∃xs,KT H kvs xs/\h.DictOfH (tupleKind (aQ P w)) a xs:=pT ok (.inl e)
end
def eu (H:Hp)(a:Addr)(y:V)(r:Option V):Prop :=
 (∃kvs k,Rd H a (.dK kvs)/\y=kV k/\r=b5 kvs k)\/∃kvs k b,Rd H a (.dT kvs)/\y=.ref b/\H b=some (.tup (k.map kV))/\r=b5 kvs k
def gW (H:Hp)(a:Addr)(y v:V)(H':Hp):Prop :=
 (∃kvs k,H a=some (.dK kvs)/\y=kV k/\kvs.length<sizeLine/\H' = upd H a (.dK (putK kvs k v))) \/
 ∃kvs k b,H a=some (.dT kvs)/\y=.ref b/\H b=some (.tup (k.map kV))/\kvs.length<sizeLine/\H' = upd H a (.dT (putK kvs k v))
theorem eu.k {H:Hp}{a:Addr}{kvs:List (Key×V)}{k:Key}(e:H a=some (.dK kvs)):eu H a (kV k) (b5 kvs k):=.inl ⟨kvs,k,.inl e,rfl,rfl⟩
theorem gW.k {H:Hp}{a:Addr}{kvs:List (Key×V)}{k:Key}{v:V}(e:H a=some (.dK kvs))(hl:kvs.length<sizeLine):gW H a (kV k) v (upd H a (.dK (putK kvs k v))):=.inl ⟨kvs,k,e,rfl,hl,rfl⟩
section
variable {X:Cx}{pins:List (Addr×Obj)}{Gf : St}{H:Hp}{s:Shared}{a:Addr}{y v:V}{u r:Value}{o:Option V}{A:Around}{E:Value->Shared->Prop}
theorem Inv.big (I:Inv X pins Gf H s):sysModules<s.heap.objs.size:=by
 have h:mainGlobals<s.heap.objs.size:=(I.mod.glob.keeps I.bk).lt
 exact HV (by decide) h
theorem yL {Q:Value->Shared->Prop}(hu:A.units+1<cLine)(I:Inv X pins Gf H s)(g:eu H a y (some v))(ry:RelV y u)(h:∀w' s',Inv X pins Gf H s'->RelV v w'->Q w' s') :
  wpAny (model X.prog X.w) A (getItem (.ref a) u) Q E s:=by
 rcases g with ⟨kvs,k,e,ey,l⟩ | ⟨kvs,k,b,e,ey,eb,l⟩
 ·subst ey
  obtain⟨z,hd,vs,rel,dd⟩:=nc I.aL e
  obtain⟨w',hw,rw'⟩:=eW.some_of (v:=v) (o:=valueAt vs k) (by rw [l];exact rel.val k)
  exact wpAny_getItem_of (kC ry) dd.mapOf hw (h w' _ (I.tok _) rw')
 ·subst ey
  cases (show u=Value.ref b from ry)
  obtain⟨z,hd,xs,rel,dd⟩:=pT I.aL e
  obtain⟨w',hw,rw'⟩:=eW.some_of (v:=v) (o:=(atKey xs k).map (·.2)) (by rw [l];exact rel.val k)
  obtain⟨p,hp,hp2⟩:=Option.map_eq_some_iff.mp hw
  refine wpAny_getItem_heap (tupleKind_room_in1 hu) (pS I.aL eb) dd hp ?_
  rw [hp2]
  exact h w' _ (I.tok _) rw'
theorem qR {h':Heap}{t':Nat}{ob:HO}(I:Inv X pins Gf H s)(mu:ye (H a))(hs:GW a s.heap h')(he:∃q,h'.get? a=some q)(new:bM X.prog X.w (upd H a ob) h' a ob) :
  Inv X pins Gf (upd H a ob) { s with heap:=h',toks:=t' } :=
 I.write (x:=a) (e:=a) mu (.inl rfl) (fun b q hb z=>(hs.2 b hb).trans z) he new
theorem mh {P:Program}{w:World}{H':Hp}{h':Heap}{kvs:List (Key×V)}{vs:List (Key×Value)}(z:kvs.length<=sizeLine)(hd:(a == sysModules)=false)(rel:KV kvs vs)(dd:h'.DictOf (aQ P w) a vs) :
  bM P w H' h' a (.dK kvs):=⟨z,hd,vs,rel,dd⟩
theorem yM {H':Hp}{Q:Unit->Shared->Prop}(hu:A.units+1<cLine)(I:Inv X pins Gf H s)(g:gW H a y v H')(ry:RelV y u)(rv:RelV v r)(h:∀s',Inv X pins Gf H' s'->Q () s') :
  wpAny (model X.prog X.w) A (setItem (.ref a) u r) Q E s:=by
 rcases g with ⟨kvs,k,e,ey,l,eH⟩ | ⟨kvs,k,b,e,ey,eb,l,eH⟩
 ·subst ey eH
  obtain⟨z,hd,vs,rel,dd⟩:=ng I.aL e
  have hz:vs.length<=sizeLine:=by rw [<-rel.length];exact z
  have hl:(putK kvs k v).length<=sizeLine:=by have:=nY kvs k v;omega
  refine wpAny_setItem_pairs (hsz:=hz) (kC ry) dd fun h' dd' hs=>h _ ?_
  have he:∃q,h'.get? a=some q:=let ⟨q,_,_,hq,_⟩:=dd';⟨q,hq⟩
  exact qR I (by rw [e];exact True.intro) hs he (mh hl hd (rel.put k rv) dd')
 ·subst ey eH
  cases (show u=Value.ref b from ry)
  obtain⟨z,hd,xs,rel,dd⟩:=EB I.aL e
  have hz:xs.length<=sizeLine:=by rw [<-Paired.length rel];exact z
  have hl:(putK kvs k v).length<=sizeLine:=by have:=nY kvs k v;omega
  refine wpAny_setItem_heap (hsz:=hz) (tupleKind_room_in1 hu) (pS I.aL eb) dd fun h' dd' hs=>h _ ?_
  obtain⟨q,es,ep,hq,h2,h3,h4,_,h5⟩:=dd'
  refine qR I (by rw [e];exact True.intro) hs ⟨q,hq⟩ ⟨hl,hd,_,(rel.put k eb rv).keeps fun c ys ec=>?_,q,es,ep,hq,h2,h3,h4,h5⟩
  rw [ao (bw ec e (fun z=>nomatch z))]
  exact ec
end
section
variable {X:Cx}{pins:List (Addr×Obj)}{Gf : St}{H:Hp}{s:Shared}{a:Addr}{kvs:List (Key×V)}{k:Key}{u:Value}{A:Around}{E:Value->Shared->Prop}
theorem EC {v:V}{more:List Value}{Q:Value->Shared->Prop}(I:Inv X pins Gf H s)(e:H a=some (.dK kvs))(ry:RelV (kV k) u)(l:b5 kvs k=some v)(hm:more=[]\/∃x,more=[x])
  (h:∀w' s',Inv X pins Gf (upd H a (.dK (fg kvs k))) s'->RelV v w'->Q w' s'):wpAny (model X.prog X.w) A (call (.builtin "dict.pop") (.ref a::u::more)) Q E s:=by
 obtain⟨z,hd,vs,rel,dd⟩:=ng I.aL e
 obtain⟨w',hw,rw'⟩:=eW.some_of (v:=v) (o:=valueAt vs k) (by rw [<-l];exact rel.val k)
 have hp:(keyPart u).isSome=true:=by
  cases k with
  | inl i=>obtain⟨t,q⟩:=(show ∃t,u=Value.int i t from ry);subst q;rfl
  | inr x=>obtain⟨t,q⟩:=(show ∃t,u=Value.str x t from ry);subst q;rfl
 have ha:argsOk "dict.pop" ⟨.ref a::u::more,[]⟩:=by
  rcases hm with q | ⟨x,q⟩
  ·subst q;exact PySem.F.args_dict_pop_2 _ _
  ·subst q;exact PySem.F.args_dict_pop_3 _ _ _
 refine call_meetsIn PySem.F.slot_dict_pop dd.typeIs PySem.F.entry_dict_pop ha (meets_dict_pop_there (aQ X.prog X.w) a (kC ry) more hm hp)
  ⟨vs,w',dd,by rw [<-rel.length];exact z,hw,fun h' dd' hs=>h w' _ ?_ rw'⟩
 have he:∃q,h'.get? a=some q:=let ⟨q,_,_,hq,_⟩:=dd';⟨q,hq⟩
 exact qR I (by rw [e];exact True.intro) hs he (mh (Gr (Am kvs k) z) hd (rel.drop k) dd')
theorem DF {r:Value}{Q:Value->Shared->Prop}(I:Inv X pins Gf H s)(e:H a=some (.dK kvs))(ry:RelV (kV k) u)(l:b5 kvs k=none)(h:∀s',Inv X pins Gf H s'->Q r s') :
  wpAny (model X.prog X.w) A (call (.builtin "dict.pop") [.ref a,u,r]) Q E s:=by
 obtain⟨z,hd,vs,rel,dd⟩:=ng I.aL e
 have hn:valueAt vs k=none:=eW.none_of (by rw [<-l];exact rel.val k)
 have hp:(keyPart u).isSome=true:=by
  cases k with
  | inl i=>obtain⟨t,q⟩:=(show ∃t,u=Value.int i t from ry);subst q;rfl
  | inr x=>obtain⟨t,q⟩:=(show ∃t,u=Value.str x t from ry);subst q;rfl
 exact call_meetsIn PySem.F.slot_dict_pop dd.typeIs PySem.F.entry_dict_pop (PySem.F.args_dict_pop_3 _ _ _) (meets_dict_pop_default (aQ X.prog X.w) a (kC ry) hd hp r) ⟨vs,dd,hn,h _ (I.tok _)⟩
end
def xt (i:Expr):Prop:=∀ov iv,subscripted i false ov iv=operate [ov,iv] (getItem ov iv)
theorem qS {prog:Program}{w:World}{A:Around}{E:Value->Shared->Prop}{s:Shared}{env:Env}{value slice:Expr}{pos:Pos}{T id:String}{Q:Value->Shared->Prop}
  (hl:typeLookup (.type T) "__getitem__" = pure (some (.builtin id))) (hs:xt slice)
  (h:wpAny (model prog w) A (eval value env) (fun o s₁=>wpAny (model prog w) A (eval slice env) (fun i s₂=>s₂.TypeIs o T/\wpAny (model prog w) A (getItem o i) Q E s₂) E s₁) E s) :
  wpAny (model prog w) A (eval (.Subscript value slice pos) env) Q E s:=by
 refine Subscript_ (IY h (fun o s₁ h₁=>IY h₁ (fun i s₂ h₂=>?_) fun _ _ x=>x) fun _ _ x=>x)
 obtain⟨hT,h₂⟩:=h₂
 unfold subscriptTail
 refine IW ?_
 rw [getitemInPython_of_ne hT.not_modules]
 refine IW (wpAny_specialOf hT hl ?_)
 have fin:wpAny (model prog w) A (subscripted slice false o i) (fun r s₃=>wpAny (model prog w) A (letTemporaryGo value o r >>= fun _=>pure r) Q E s₃) E s₂:=by
  rw [hs o i]
  exact wpAny_operating (IY h₂ (fun r s₃ h₃=>IW (wpAny_letTemporaryGo (IX h₃))) fun _ _ x=>x)
 first
  | exact IX (IW fin)
  | exact IW (IX (IW fin))
  | exact IW fin
theorem vf {X:Cx} {pins:List (Addr×Obj)} {Gf : St} {H:Hp} {s:Shared} {a:Addr} {y:V} {o:Option V} (I:Inv X pins Gf H s) (g:eu H a y o):s.TypeIs (.ref a) "dict" := by
 rcases g with ⟨kvs,k,e,_,_⟩ | ⟨kvs,k,b,e,_,_,_⟩
 ·obtain⟨_,_,vs,_,dd⟩:=nc I.aL e
  exact dd.typeIs
 ·obtain⟨_,_,xs,_,dd⟩:=pT I.aL e
  exact dd.typeIs
inductive An (Q:VK) (x:V) (y:V) (H2:Hp):Prop
 | mk (a v:_) (_:x=.ref a) (_:eu H2 a y (some v)) (_:Q v H2)
def ED (td ty:TE):TE:=fun Gf H Q=>td Gf H fun x H1=>ty Gf H1 fun y H2=>An Q x y H2
def EE (td ty tv:TE):TS:=fun D Gf H=>tv Gf H fun v H1=>td Gf H1 fun x H2=>ty Gf H2 fun y H3=>∃a H4,x=.ref a/\gW H3 a y v H4/\D.nx Gf H4
section
variable {X:Cx}{o i e value:Expr}{pos pos' tpos:Pos}{td ty tv:TE}
theorem nh (hu:X.A.units+1<cLine)(ho:PE X o td)(hi:PE X i ty)(hs:xt i):PE X (.Subscript o i pos) (ED td ty):=by
 intro pins s Gf H Q I h
 refine qS PySem.F.slot_dict_getitem.lookup hs (bB (ho pins s Gf H _ I h) fun u s1 ⟨x,H1,I1,rx,q1⟩=>bB (hi pins s1 Gf H1 _ I1 q1) fun iv s2 ⟨y,H2,I2,ry,a,v,ex,g,q2⟩=>?_)
 subst ex
 obtain rfl:u=Value.ref a:=rx
 exact⟨vf I2 g,yL hu I2 g ry fun w' s3 I3 rw'=>⟨v,H2,I3,rw',q2⟩⟩
theorem fC (hu:X.A.units+1<cLine)(ho:PE X o td)(hi:PE X i ty)(hv:PE X value tv)(hs:swapsWith value (some (.Subscript o i pos')) pos.line X.env=pure false) :
  PS X (.Assign [.Subscript o i pos'] value pos) (EE td ty tv):=by
 intro pins s Gf H D I h
 refine wpAny_Assign_Subscript (bB (hv pins s Gf H _ I h) fun r s1 ⟨v,H1,I1,rv,q1⟩=>bB (ho pins s1 Gf H1 _ I1 q1) fun u s2 ⟨x,H2,I2,rx,q2⟩=>bB (hi pins s2 Gf H2 _ I2 q2) fun iv s3 ⟨y,H3,I3,ry,a,H4,ex,g,q3⟩=>?_) hs
 subst ex
 obtain rfl:u=Value.ref a:=rx
 exact yM hu I3 g ry rv fun s4 I4=>⟨Gf,H4,I4,q3⟩
end
theorem t9 {P:Program}{w:World}{H:Hp}(h:Heap)(hb:sysModules<h.objs.size):bM P w H (h.push { cls:=.type "dict",data:=.dict #[] }) h.objs.size (.dK []) :=
 ⟨GI _,beq_eq_false_iff_ne.mpr (Ne.symm (Gs hb)),[],.nil,Heap.DictOf.new h⟩
def DG:TE:=fun _ H Q=>∀p,H p=none->Q (.ref p) (upd H p (.dK []))
section
variable {X:Cx}{pos:Pos}
theorem iq:PE X (.Dict [] [] pos) DG:=fun pins s Gf H Q I h =>
 wpAny_Dict_empty ⟨.ref s.heap.objs.size,_,I.laid (a:=s.heap.objs.size) (o:=.dK []) (t':=s.toks) (fun _ _ q=>Gp _ q) (Gj _) (t9 s.heap I.big),rfl,h _ (I.aL.fresh (Gj _))⟩
end
def ua:List (TE×TE)->St->Hp->(List (V×V)->Hp->Prop)->Prop
 | [],_,H,Q=>Q [] H
 | (tk,tv)::r,Gf,H,Q=>tk Gf H fun x H1=>tv Gf H1 fun y H2=>ua r Gf H2 fun ps H3=>Q ((x,y)::ps) H3
abbrev VV:List (V×V)->List (Value×Value)->Prop:=Paired fun p q=>RelV p.1 q.1/\RelV p.2 q.2
def Bz (X:Cx)(pos:Pos)(keys:List (Option Expr))(values:List Expr)(trs:List (TE×TE)):Prop :=
 ∀(pins:List (Addr×Obj)) (s:Shared) (Gf : St) (H:Hp) (Q:List (V×V)->Hp->Prop),Inv X pins Gf H s->ua trs Gf H Q ->
  wpAny (model X.prog X.w) X.A (evalPairs (pairTrees keys values X.env pos)) (fun vs s'=>∃ps H',Inv X pins Gf H' s'/\VV ps vs/\Q ps H') X.xe s
theorem Cf {X:Cx}{pos:Pos}:Bz X pos [] [] []:=fun pins s Gf H Q I h=>pairTrees_nil_walk ⟨[],H,I,.nil,h⟩
theorem Ao {X:Cx}{pos:Pos}{k v:Expr}{ks:List (Option Expr)}{vs:List Expr}{tk tv:TE}{trs:List (TE×TE)}(hk:PE X k tk)(hv:PE X v tv)(hr:Bz X pos ks vs trs) :
  Bz X pos (some k::ks) (v::vs) ((tk,tv)::trs):=fun pins s Gf H Q I h =>
 pairTrees_cons_walk (bB (hk pins s Gf H _ I h) fun u s1 ⟨x,H1,I1,rx,q1⟩=>bB (hv pins s1 Gf H1 _ I1 q1) fun w2 s2 ⟨y,H2,I2,ry,q2⟩ =>
  bB (hr pins s2 Gf H2 _ I2 q2) fun ws s3 ⟨ps,H3,I3,rel,q3⟩=>⟨(x,y)::ps,H3,I3,.cons ⟨rx,ry⟩ rel,q3⟩)
structure M2 (X:Cx) (o:Expr) (m:Str) (apos:Pos) (e f:Expr) (cpos:Pos):Prop where
 base:attributeBase o m X.env (eval o X.env)=eval o X.env
 cX:((backTo cpos (starEach [e,f] X.env)).all (fun x=>!x.1)&&(backToKw cpos (keywordEach [] X.env)).all (fun x=>x.1.isSome)
  && decide (([e,f]:List Expr).length+([]:List Keyword).length+(if ([]:List Keyword).isEmpty then 0 else 1)<30))=true
 line:(apos.endLine == cpos.line)=true
 trees:backTo cpos (starEach [e,f] X.env)=[(false,eval e X.env),(false,eval f X.env)]
def DH (H:Hp)(a:Addr):Prop:=(∃kvs,Rd H a (.dK kvs))\/∃kvs,Rd H a (.dT kvs)
theorem yN {X:Cx}{pins:List (Addr×Obj)}{Gf : St}{H:Hp}{s:Shared}{a:Addr}(I:Inv X pins Gf H s)(d:DH H a) :
  s.TypeIs (.ref a) "dict" /\ (∀b,Value.ref a=.ref b->∃ob,s.heap.get? b=some ob/\ob.dict=none)/\(a == sysModules)=false:=by
 rcases d with ⟨kvs,e⟩ | ⟨kvs,e⟩
 ·obtain⟨_,hd,vs,_,dd⟩:=nc I.aL e
  refine⟨dd.typeIs,fun b q=>?_,hd⟩
  cases q
  obtain⟨ob,_,_,h1,h2,_⟩:=dd
  exact⟨ob,h1,h2.2.1⟩
 ·obtain⟨_,hd,xs,_,dd⟩:=pT I.aL e
  refine⟨dd.typeIs,fun b q=>?_,hd⟩
  cases q
  obtain⟨ob,_,_,h1,h2,_⟩:=dd
  exact⟨ob,h1,h2.2.1⟩
section
variable {X:Cx}{pins:List (Addr×Obj)}{Gf : St}{H:Hp}{s:Shared}{a:Addr}{y d:V}{u r:Value}{o:Option V}{A:Around}{E:Value->Shared->Prop}
theorem DI {Q:Value->Shared->Prop}(hu:A.units+1<cLine)(I:Inv X pins Gf H s)(g:eu H a y o)(ry:RelV y u)(rd:RelV d r)(h:∀w' s',Inv X pins Gf H s'->RelV (o.getD d) w'->Q w' s') :
  wpAny (model X.prog X.w) A (call (.builtin "dict.get") [.ref a,u,r]) Q E s:=by
 rcases g with ⟨kvs,k,e,ey,l⟩ | ⟨kvs,k,b,e,ey,eb,l⟩
 ·subst ey
  obtain⟨z,hd,vs,rel,dd⟩:=nc I.aL e
  refine call_meetsIn PySem.F.slot_dict_get dd.typeIs PySem.F.entry_dict_get (PySem.F.args_dict_get_3 _ _ _) (meets_dict_get_default (aQ X.prog X.w) a (kC ry) hd r) ⟨_,dd.mapOf,h _ _ (I.tok _) ?_⟩
  rw [l]
  exact (rel.val k).getD rd
 ·subst ey
  cases (show u=Value.ref b from ry)
  obtain⟨z,hd,xs,rel,dd⟩:=pT I.aL e
  refine call_meetsIn PySem.F.slot_dict_get dd.typeIs PySem.F.entry_dict_get (PySem.F.args_dict_get_3 _ _ _) (meetsH_dict_get_default (tupleKind (aQ X.prog X.w)) a b hd r) ⟨tupleKind_room_in1 hu,k,xs,pS I.aL eb,dd,h _ _ (I.tok _) ?_⟩
  rw [l]
  exact (rel.val k).getD rd
end
inductive yO (Q:VK) (a:Addr) (y:V) (z:V) (H3:Hp):Prop
 | mk (kvs k:_) (_:H3 a=some (.dK kvs)) (_:y=kV k) (_:(∀v,b5 kvs k=some v->Q v (upd H3 a (.dK (fg kvs k))))) (_:(b5 kvs k=none->Q z H3))
inductive yQ (ty:TE) (tx:TE) (Gf : St) (Q:VK) (x:V) (H1:Hp):Prop
 | mk (a:_) (_:x=.ref a) (_:DH H1 a) (_:ty Gf H1 fun y H2=>tx Gf H2 fun z H3=>yO Q a y z H3)
def DJ (td ty tx:TE):TE:=fun Gf H Q=>td Gf H fun x H1=>yQ ty tx Gf Q x H1
section
variable {X:Cx}{o e f:Expr}{apos cpos:Pos}{td ty tx:TE}
theorem Ap (ho:PE X o td) (he:PE X e ty) (hf:PE X f tx) (m:M2 X o "pop" apos e f cpos):PE X (.Call (.Attribute o "pop" apos) [e,f] [] cpos) (DJ td ty tx):=by
 intro pins s Gf H Q I h
 refine wpAny_Call_method m.base m.cX m.line PySem.F.plainAttrs_dict PySem.F.slot_dict_pop PySem.F.type_dict_pop (bB (ho pins s Gf H _ I h) fun u s1 ⟨x,H1,I1,rx,a,ex,d,q1⟩=>?_)
 subst ex
 obtain rfl:u=Value.ref a:=rx
 obtain⟨t1,t2,_⟩:=yN I1 d
 refine⟨t1,t2,?_⟩
 rw [m.trees]
 refine Calls.callWith_builtin rfl (Calls.evalArgs_plain (Calls.spliced_cons (bB (he pins s1 Gf H1 _ I1 q1) fun iv s2 ⟨y,H2,I2,ry,q2⟩ =>
  Calls.spliced_cons (bB (hf pins s2 Gf H2 _ I2 q2) fun fv s3 ⟨z,H3,I3,rz,kvs,k,ea,ey,q3,q4⟩=>Calls.spliced_nil ?_))))
 subst ey
 cases l:b5 kvs k with
 | some v=>exact EC I3 ea ry l (.inr ⟨fv,rfl⟩) fun w' s4 I4 rw'=>⟨v,_,I4,rw',q3 v l⟩
 | none=>exact DF I3 ea ry l fun s4 I4=>⟨z,H3,I4,rz,q4 l⟩
end
section
variable {X:Cx}{pins:List (Addr×Obj)}{Gf : St}{H:Hp}{s:Shared}{a:Addr}{kvs:List (Key×V)}{A:Around}{E:Value->Shared->Prop}
end
section
variable {X:Cx}{pins:List (Addr×Obj)}{Gf : St}{H:Hp}{s:Shared}{a:Addr}{y:V}{u:Value}{A:Around}{E:Value->Shared->Prop}
end
section
variable {X:Cx}
end
section
variable {κ : Type}[DecidableEq κ]
theorem Cg {kvs:List (κ×V)}{k:κ}{v:V}(h:b5 kvs k=some v):k∈kvs.map (·.1):=by
 have q:(kvs.any fun kv=>decide (kv.1=k))=true:=by
  rw [ip,h]
  all_goals rfl
 obtain⟨p,hp,e⟩:=List.any_eq_true.mp q
 exact GL.mpr ⟨p,hp,of_decide_eq_true e⟩
theorem sd {p:κ×V}{r:List (κ×V)}{k:κ}(e:p.1=k):fg (p::r) k=fg r k:=by
 unfold fg
 rw [Iq,if_neg (by simp [e])]
theorem se {p:κ×V}{r:List (κ×V)}{k:κ}(e:¬p.1=k):fg (p::r) k=p::fg r k:=by
 unfold fg
 rw [Iq,if_pos (by simp [e])]
end
theorem aX.bP {H:Hp}{v:V}{ds:List PyData}(h:aX H v (.tuple ds)):∃p xs,v=.ref p/\H p=some (.tup xs)/\bu H xs ds:=by
 cases h with
 | tup e r=>exact⟨_,_,rfl,e,r⟩
theorem aX.int_inv {H:Hp}{v:V}{i:Int}(h:aX H v (.int i)):v=.int i:=by cases h;rfl
theorem aX.str_inv {H:Hp}{v:V}{x:Str}(h:aX H v (.str x)):v=.str x:=by cases h;rfl
theorem bu.cons_inv {H:Hp}{xs:List V}{d:PyData}{ds:List PyData}(h:bu H xs (d::ds)):∃x r,xs=x::r/\aX H x d/\bu H r ds:=by
 cases h with
 | cons a b=>exact⟨_,_,rfl,a,b⟩
theorem bu.nil_inv {H:Hp}{xs:List V}(h:bu H xs []):xs=[]:=by cases h;rfl
theorem bu.get {H:Hp}:∀{xs:List V} {ds:List PyData} {i:Nat} {d:PyData},bu H xs ds->ds[i]?=some d->∃x,xs[i]?=some x/\aX H x d
 | _,_,_,_,.nil,e=>by simp at e
 | _,_,0,_,.cons r _,e=>by
  simp at e
  subst e
  exact⟨_,rfl,r⟩
 | _,_,i+1,d,.cons _ t,e=>by
  obtain⟨x,h1,h2⟩:=bu.get (i:=i) (d:=d) t (by simpa using e)
  exact⟨x,by simpa using h1,h2⟩
def ni:di->List V
 | .put x n=>[.str "put",.str x,.int n]
 | .copy x y=>[.str "copy",.str x,.str y]
 | .add x n=>[.str "add",.str x,.int n]
 | .read x=>[.str "read",.str x]
 | .tell x=>[.str "tell",.str x]
def eJ:End->List V
 | .stop=>[.str "stop"]
 | .go p=>[.str "go",.int p]
 | .cF b x n p q=>[.str (wT b),.str x,.int n,.int p,.int q]
theorem gH {H:Hp}{v:V}{d:di}(h:aX H v (dB d)):∃p,v=.ref p/\H p=some (.tup (ni d)):=by
  cases d <;> (
    obtain⟨p,xs,rfl,e,r⟩:=aX.bP h
    obtain⟨x1,r1,rfl,h1,r⟩:=r.cons_inv
    obtain⟨x2,r2,rfl,h2,r⟩:=r.cons_inv
    first
      | (obtain⟨x3,r3,rfl,h3,r⟩:=r.cons_inv
         have z:=r.nil_inv
         subst z
         refine⟨p,rfl,?_⟩
         first
           | rw [e,h1.str_inv,h2.str_inv,h3.int_inv];rfl
           | rw [e,h1.str_inv,h2.str_inv,h3.str_inv];rfl)
      | (have z:=r.nil_inv
         subst z
         refine⟨p,rfl,?_⟩
         rw [e,h1.str_inv,h2.str_inv];rfl))
theorem DK {H:Hp}{v:V}{e:End}(h:aX H v (jm e)):∃p,v=.ref p/\H p=some (.tup (eJ e)):=by
 cases e with
 | stop =>
  obtain⟨p,xs,rfl,e,r⟩:=aX.bP h
  obtain⟨x1,r1,rfl,h1,r⟩:=r.cons_inv
  have z:=r.nil_inv
  subst z
  exact⟨p,rfl,by rw [e,h1.str_inv];rfl⟩
 | go q =>
  obtain⟨p,xs,rfl,e,r⟩:=aX.bP h
  obtain⟨x1,r1,rfl,h1,r⟩:=r.cons_inv
  obtain⟨x2,r2,rfl,h2,r⟩:=r.cons_inv
  have z:=r.nil_inv
  subst z
  exact⟨p,rfl,by rw [e,h1.str_inv,h2.int_inv];rfl⟩
 | cF b x n q q' =>
  obtain⟨p,xs,rfl,e,r⟩:=aX.bP h
  obtain⟨x1,r1,rfl,h1,r⟩:=r.cons_inv
  obtain⟨x2,r2,rfl,h2,r⟩:=r.cons_inv
  obtain⟨x3,r3,rfl,h3,r⟩:=r.cons_inv
  obtain⟨x4,r4,rfl,h4,r⟩:=r.cons_inv
  obtain⟨x5,r5,rfl,h5,r⟩:=r.cons_inv
  have z:=r.nil_inv
  subst z
  exact⟨p,rfl,by rw [e,h1.str_inv,h2.str_inv,h3.int_inv,h4.int_inv,h5.int_inv];rfl⟩
theorem fh {H:Hp}{v:V}{ps:List Piece}{i:Nat}{ds:List di}{e:End}(h:aX H v (eD ps))(hi:ps[i]?=some (ds,e)) :
  ∃p xs pc da ea vs,v=.ref p/\H p=some (.tup xs)/\xs.length=ps.length/\xs[i]?=some (.ref pc)/\H pc=some (.tup [.ref da,.ref ea])/\H da=some (.tup vs)/\bu H vs (ds.map dB)/\H ea=some (.tup (eJ e)):=by
 obtain⟨p,xs,rfl,e1,r⟩:=aX.bP h
 have hl:=r.len
 obtain⟨x,hx,rx⟩:=r.get (i:=i) (d:=bW (ds,e)) (by rw [Gz,hi];rfl)
 obtain⟨pc,ys,rfl,e2,r2⟩:=aX.bP rx
 obtain⟨y1,t1,rfl,q1,r2⟩:=r2.cons_inv
 obtain⟨y2,t2,rfl,q2,r2⟩:=r2.cons_inv
 have z:=r2.nil_inv
 subst z
 obtain⟨da,vs,rfl,e3,r3⟩:=aX.bP q1
 obtain⟨ea,rfl,e4⟩:=DK q2
 exact⟨p,xs,pc,da,ea,vs,rfl,e1,by rw [hl,Gi],hx,e2,e3,r3,e4⟩
theorem d7 {n:Nat}(h:n<=1000000):n<sizeLine:=HU h (by decide)
theorem bh {c:Bool}{A B:Prop}(hc:c=false)(h:B):if c=true then A else B:=by subst hc;exact bN h
theorem bY {c:Bool}{A B:Prop}(hc:c=true)(h:A):if c=true then A else B:=by subst hc;exact bT h
inductive xu (Q:VK) (a:Addr) (y:V) (z:V) (H3:Hp):Prop
 | mk (o v:_) (_:eu H3 a y o) (_:o.getD z=v) (_:Q v H3)
inductive xw (ty:TE) (tx:TE) (Gf : St) (Q:VK) (x:V) (H1:Hp):Prop
 | mk (a:_) (_:x=.ref a) (_:DH H1 a) (_:ty Gf H1 fun y H2=>tx Gf H2 fun z H3=>xu Q a y z H3)
def Ci (td ty tx:TE):TE:=fun Gf H Q=>td Gf H fun x H1=>xw ty tx Gf Q x H1
theorem fK {X:Cx} {o e f:Expr} {apos cpos:Pos} {td ty tx:TE} (hu:X.A.units+1<cLine) (ho:PE X o td) (he:PE X e ty) (hf:PE X f tx) (m:M2 X o "get" apos e f cpos):PE X (.Call (.Attribute o "get" apos) [e,f] [] cpos) (Ci td ty tx):=by
 intro pins s Gf H Q I h
 refine wpAny_Call_method m.base m.cX m.line PySem.F.plainAttrs_dict PySem.F.slot_dict_get PySem.F.type_dict_get (bB (ho pins s Gf H _ I h) fun u s1 ⟨x,H1,I1,rx,a,ex,d,q1⟩=>?_)
 subst ex
 obtain rfl:u=Value.ref a:=rx
 obtain⟨t1,t2,_⟩:=yN I1 d
 refine⟨t1,t2,?_⟩
 rw [m.trees]
 refine Calls.callWith_builtin rfl (Calls.evalArgs_plain (Calls.spliced_cons (bB (he pins s1 Gf H1 _ I1 q1) fun iv s2 ⟨y,H2,I2,ry,q2⟩ =>
  Calls.spliced_cons (bB (hf pins s2 Gf H2 _ I2 q2) fun fv s3 ⟨z,H3,I3,rz,ov,v,g,ev,q3⟩=>Calls.spliced_nil ?_))))
 exact DI hu I3 g ry rz fun w' s4 I4 rw'=>⟨v,H3,I4,by rw [<-ev];exact rw',q3⟩
structure RS where
 EF:Nat
 place:Nat
 w:Str->Int
 taken:Nat
 told:List Int
 word:Str
 Aq:List Nat
def DW (kvs:List (Key×V))(w:Str->Int):Prop:=∀x:Str,(b5 kvs (Sum.inr x:Key)).getD (.int 0)=.int (w x)
def kf (ps:List Piece):Prop:=∀p∈ps,match p.2 with
 | .stop=>True
 | .go q=>q<ps.length
 | .cF _ _ _ q r=>q<ps.length/\r<ps.length
theorem b8.yR {xs:List Str}{m:Nat}{ps:List Piece}(h:b8 xs m ps):kf ps:=fun p hp=>by
 have:=h.ends p hp
 cases e:p.2 with
 | stop=>exact True.intro
 | go q=>rw [e] at this;exact this
 | cF b x n q r=>rw [e] at this;exact⟨this.2.2.1,this.2.2.2⟩
def vO:Option Int->V
 | none=>.aZ
 | some i=>.int i
def nZ:Option Int->Option Int->Prop
 | some a,some b=>a<=b
 | _,_=>True
def eV (n:Int)(lo hi:Option Int):Bool:=(match lo with | none=>true | some a=>decide (a<=n))&&(match hi with | none=>true | some a=>decide (n<=a))
abbrev Rs:=Option (Option Int×Option Int)
def iS (hi:Option Int)(n:Int):Int:=match hi with | none=>n-1 | some h=>if n-1<h then n-1 else h
def iT (lo:Option Int)(n:Int):Int:=match lo with | none=>n | some l=>if n > l then n else l
def gi (lo hi:Option Int)(n:Int):Rs :=
 match lo with | none=>some (none,some (iS hi n)) | some l=>if iS hi n<l then none else some (some l,some (iS hi n))
def iF (lo hi:Option Int)(n:Int):Rs :=
 match hi with | none=>some (some (iT lo n),none) | some h=>if h<iT lo n then none else some (some (iT lo n),some h)
def lM (lo hi:Option Int)(n:Int):Rs:=if eV n lo hi=true then some (some n,some n) else none
def jn (lo hi:Option Int)(n:Int):Rs:=if lo=some n then (if hi=some n then none else some (some (n+1),hi)) else if hi=some n then some (lo,some (n-1)) else some (lo,hi)
def kF (lo hi:Option Int)(n:Int)(side:Bool):Rs:=if side=true then gi lo hi n else iF lo hi n
def uc (lo hi:Option Int)(n:Int)(side:Bool):Rs:=if side=true then lM lo hi n else jn lo hi n
def dP (w:Str)(lo hi:Option Int)(n:Int)(side:Bool):Rs:=if w = "less" then kF lo hi n side else uc lo hi n side
theorem Ar {w:Str}{lo hi:Option Int}{n:Int}(le:nZ lo hi)(h1:dP w lo hi n true=none)(h2:dP w lo hi n false=none):False:=by
 unfold dP at h1 h2
 by_cases hw:w = "less"
 ·rw [if_pos hw] at h1 h2
  simp only [kF,if_true,Hh,if_false] at h1 h2
  unfold gi iS at h1
  unfold iF iT at h2
  cases lo <;> cases hi <;> simp only [reduceCtorEq] at h1 h2
  rename_i l h
  simp only [nZ] at le
  by_cases c1:n-1<h
  ·simp only [c1,if_true] at h1
   by_cases c2:n-1<l
   ·by_cases c3:n > l
    ·simp only [c3,if_true] at h2
     split at h2
     ·omega
     ·cases h2
    ·simp only [c3,if_false] at h2
     split at h2
     ·omega
     ·cases h2
   ·rw [if_neg c2] at h1;cases h1
  ·simp only [c1,if_false] at h1
   split at h1
   ·omega
   ·cases h1
 ·rw [if_neg hw] at h1 h2
  simp only [uc,if_true,Hh,if_false] at h1 h2
  unfold jn at h2
  by_cases c1:lo=some n
  ·rw [if_pos c1] at h2
   by_cases c2:hi=some n
   ·subst c1;subst c2
    simp [lM,eV] at h1
   ·rw [if_neg c2] at h2;cases h2
  ·rw [if_neg c1] at h2
   split at h2 <;> cases h2
def RV (H:Hp)(v:V)(r:Rs):Prop:=match r with
 | none=>v=.aZ
 | some (a,b)=>∃p,v=.ref p/\H p=some (.tup [vO a,vO b])
theorem RV.same {H H':Hp}{v:V}{r:Rs}(h:RV H v r)(s:af H H'):RV H' v r:=by
 cases r with
 | none=>exact h
 | some ab =>
  obtain⟨p,e,h⟩:=h
  exact⟨p,e,s _ _ h⟩
theorem RV.put {H:Hp}{v:V}{r:Rs}{l:Addr}{xs:List V}{o:HO}(h:RV H v r)(hl:H l=some (.lst xs)):RV (upd H l o) v r:=by
 cases r with
 | none=>exact h
 | some ab =>
  obtain⟨p,e,h⟩:=h
  exact⟨p,e,by rw [ao (bw h hl (by intro z;cases z))];exact h⟩
def dO:Option Int->PyData
 | none=>.none
 | some i=>.int i
theorem DL {H:Hp}(o:Option Int):aX H (vO o) (dO o):=by
 cases o with
 | none=>exact .aZ
 | some i=>exact .int i
theorem af.put {H H':Hp}{l:Addr}{o:HO}(s:af H H')(n:H l=none):af H (upd H' l o):=fun c u e=>by rw [ao (ar e n)];exact s c u e
theorem yS:decide (V.str "less" = V.str "less")=true:=by decide +kernel
theorem jI {lo:Option Int}{n:Int}:decide (vO lo=V.int n)=decide (lo=some n):=by
 cases lo with
 | none=>rfl
 | some i =>
  by_cases h:i=n
  ·subst h;simp [vO]
  ·have h1:¬(V.int i=V.int n):=fun z=>h (V.int.inj z)
   have h2:¬((some i:Option Int)=some n):=fun z=>h (Gy.inj z)
   rw [show vO (some i)=V.int i from rfl,decide_eq_false h1,decide_eq_false h2]
theorem iO {lo:Option Int}{n:Int}:zY (vO lo) (V.int n)=true:=by cases lo <;> rfl
structure As (P:Program) (w:World) (K:Gh) (mg:Str->Option Value) (base:Heap) (C:Addr) (m:Str) (k:Nat) (ps:List Str) (sp:Sp):Prop where
 cl:lJ K C
 ex:∃f fd,bA P w K mg base bX k f fd ps sp/\Meth K C m f/\Binds K fd ps []
structure Au (P:Program) (w:World) (K:Gh) (mg:Str->Option Value) (base:Heap) (C:Addr) (x:Str) (k:Nat) (ps:List Str) (sp:Sp):Prop where
 ex:∃f fd,bA P w K mg base bX k f fd ps sp/\Mk K C f/\mg x=some (.ref C)/\Binds K fd ps []
section
variable {X:Cx}{C:Addr}{m x:Str}{k:Nat}{ps:List Str}{sp:Sp}{oe e:Expr}{es:List Expr}{ta:TE}{t:TA}{p pos apos:Pos}
theorem wa {pl:Sem Bool}(o:As X.prog X.w X.K X.mg X.base C m k ps sp)(he:PE X oe ta)(hr:de k X.A)(ha:PA X (e::es) t)
  (hst:starEach (e::es) X.env=(false,eval e X.env)::starEach es X.env:=by rfl) (hpl:(backTo pos (starEach es X.env)).any (·.1)=false:=by rfl)
  (ht:eval (.Call (.Attribute oe m apos) (e::es) [] pos) X.env=(do
   let ov <-eval oe X.env
   standAt apos.atName
   let (f,first) <-holding [ov] (getMethod ov m pl)
   callWith pos f first (backTo pos (starEach (e::es) X.env)) (backToKw pos (keywordEach [] X.env))):=by rfl) :
  PE X (.Call (.Attribute oe m apos) (e::es) [] pos) (Bu C m sp [] E0 ta t):=by
 obtain⟨f,fd,F,hm,hb⟩:=o.ex
 exact BX he o.cl hm F hr hb .nil xo ha hst hpl ht
theorem wb (o:Au X.prog X.w X.K X.mg X.base C x k ps sp)(hr:de (k+1) X.A)(hg:Gl X x)(ha:PA X (e::es) t)
  (hdb:(x == ("__debug__" : Str))=false:=by decide) (he:starEach (e::es) X.env=(false,eval e X.env)::starEach es X.env:=by rfl)
  (hpl:(backTo pos (starEach es X.env)).any (·.1)=false:=by rfl):PE X (.Call (.Name x p) (e::es) [] pos) (Bv C sp [] E0 t):=by
 obtain⟨f,fd,F,M,hm,hb⟩:=o.ex
 exact BY M F hr hg hm hb .nil xo ha hdb he hpl
end
theorem qT:bootBuiltins "dict" = some (.type "dict"):=by decide +kernel
theorem DM {k:Str}{v:V}{l:List (Str×V)}:((k,v)::l).lookup k=some v:=by simp [Hc]
theorem Av {k k':Str}{v:V}{l:List (Str×V)}{o:Option V}(h:¬k=k')(e:l.lookup k=o):((k',v)::l).lookup k=o:=by
 rw [Hr,beq_false_of_ne h];exact e
theorem Fz {k k':Str}{v u:V}{l l':List (Str×V)}(h:¬k' = k)(e:eI k v l=l'):eI k v ((k',u)::l)=(k',u)::l':=by simp only [eI,if_neg h,e]
theorem DN {k:Str}{v:V}:eI k v []=[(k,v)]:=rfl
def FX (a0 a1 a2 a3 a4 a5 a6 a7:V):List (Str×V):=[("pieces",a0),("passed",a1),("place",a2),("worths",a3),("numbers",a4),("taken",a5),("spoken",a6),("over",a7)]
section
variable {a0 a1 a2 a3 a4 a5 a6 a7 z:V}
end
structure dI (C:Addr) (H:Hp) (p pl d nl sl:Addr) (plv:V) (nums:List Int) (S:RS) (m:Nat):Prop where
 ob:∃dx,H p=some (.ins C dx (FX plv (.ref pl) (.int S.place) (.ref d) (.ref nl) (.int S.taken) (.ref sl) (.bl (decide (S.word = "stop")))))
 FY:H pl=some (.lst (S.Aq.map fun k=>V.int (k:Nat)))
 last:∃xs,S.Aq=xs++[S.EF]
 dict:∃kvs,H d=some (.dK kvs)/\DW kvs S.w/\kvs.length<=m
 nums:H nl=some (.lst (nums.map V.int))
 FZ:H sl=some (.lst (S.told.map V.int))
 ne:pl≠nl/\pl≠sl/\nl≠sl
 cX:S.told.length<=m/\S.Aq.length<=m+1
section
variable {C:Addr}{H H':Hp}{p pl d nl sl:Addr}{plv:V}{nums:List Int}{S:RS}{m:Nat}
end
end L2
namespace HT
open PySem PyProof.Rows PySem.Spec
section
variable {prog:Program}{w:World}{A:Around}{E:Value->Shared->Prop}{s:Shared}
theorem nJ {t sl:Addr}{items:Array Value}{vl vu:Value}{lo hi:Option Int}{Q:Value->Shared->Prop}(ht:IsTup s.heap t items)(hs:s.heap.IsSliceOf sl vl vu .none)(pl:IsPart vl lo)(pu:IsPart vu hi)
  (hw:cm items.size 0 lo=0/\cm items.size items.size hi=items.size) (h:Q (.ref t) s):wpAny (model prog w) A (getItem (.ref t) (.ref sl)) Q E s:=by
 obtain⟨os,hos,hcs,hds⟩:=id hs
 have hTs:s.TypeIs (.ref sl) "slice" := ⟨os,hos,hcs⟩
 unfold getItem
 try with_reducible refine IZ ?_
 first | refine IW (IX ?_) | skip
 refine IW (JC ht.typeIs (by decide) ?_)
 refine IW (wpAny_callSpecial?_slot (name:=Str.ofString "__getitem__") ht.typeIs PyProof.Rows.slot_tuple_getitem
  (Ja PyProof.Rows.slot_tuple_getitem ht.typeIs entry_tuple_getitem ?_ (args_tuple_getitem _ _)))
 show wpAny _ _ (Builtin.Tuple.tupleItemsOf (.ref t) >>= _) _ _ s
 refine IW (tupleItemsOf_ ht ?_)
 refine IW (Jl hTs ?_)
 rw [if_pos (by decide)]
 refine IW (jh hs pl pu ?_)
 have hno:((((cm items.size 0 lo:Nat):Int) == 0&&(1:Int) == 1&&(cm items.size items.size hi-cm items.size 0 lo) == items.size)=true):=by
  rw [hw.1,hw.2]
  simp
 show wpAny _ _ (if (((cm items.size 0 lo:Nat):Int) == 0&&(1:Int) == 1&&(cm items.size items.size hi-cm items.size 0 lo) == items.size)=true then _ else _) _ _ s
 rw [if_pos hno]
 refine IW ?_
 unfold Builtin.Tuple.tupleIsExact
 refine IW (Jl ht.typeIs (IX ?_))
 rw [if_pos (by decide)]
 refine IW (Jg ?_)
 first
  | exact IX ⟨_,rfl,IX h⟩
  | exact IW (IX (IX ⟨_,rfl,IX h⟩))
  | exact IX (IX ⟨_,rfl,IX h⟩)
end
end HT
namespace L2
open PySem PySem.Spec PyProof.Rows
section
variable {X:Cx}
inductive BA (K:Gh) (x:V) (lo:Option Int) (hi:Option Int) (H:Hp) (Q:VK):Prop
 | mk (a xs:_) (_:x=.ref a) (_:av K H a xs) (_:((HT.cm xs.length 0 lo=0/\HT.cm xs.length xs.length hi=xs.length)->Q (.ref a) H)) (_:(¬(HT.cm xs.length 0 lo=0/\HT.cm xs.length xs.length hi=xs.length)->∀p,H p=none->Q (.ref p) (upd H p (.tup (ij xs lo hi)))))
theorem nj:Dr X (BA X.K):=by
 intro pins s Gf H x v vl vu lo hi sl Q I rx hs pl pu h
 obtain⟨a,xs,rfl,hx,q1,q2⟩:=h
 by_cases hw:HT.cm xs.length 0 lo=0/\HT.cm xs.length xs.length hi=xs.length
 ·cases rx
  obtain⟨its,r,ht,hz⟩:=I.tuple hx
  have hlen:its.toArray.size=xs.length:=by rw [GC];exact r.length.symm
  refine⟨"tuple",_,PyProof.Rows.slot_tuple_getitem.lookup,ht.typeIs,?_⟩
  exact HT.nJ ht hs pl pu (by rw [hlen];exact hw) ⟨.ref a,H,I,rfl,q1 hw⟩
 ·exact Ds pins s Gf H (.ref a) v vl vu lo hi sl Q I rx hs pl pu ⟨a,xs,rfl,hx,hw,q2 hw⟩
end
theorem jS {P:Program}{w:World}{x:Str}{v:Value}(h:(aQ P w).is (Sum.inr x) v=true):∃t,v=.str x t:=by
 cases v with
 | str y t =>
  have:y=x:=by simpa [aQ,iC,Value.isStrOf] using h
  exact⟨t,by rw [this]⟩
 | _=>simp [aQ,iC,Value.isStrOf] at h
theorem pU:∀{vs:List Value} {ks:List Str},vs.length=ks.length->(∀(j:Nat) (v:Value) (x:Str),vs[j]?=some v->ks[j]?=some x->∃t,v=.str x t)->StrsAre vs ks
 | [],[],_,_=>.nil
 | v::vs,x::ks,hl,h=>by
  obtain⟨t,rfl⟩:=h 0 v x rfl rfl
  exact .cons x t (pU (by simpa using hl) fun j v' x' h1 h2=>h (j+1) v' x' (by simpa using h1) (by simpa using h2))
 | [],_::_,hl,_=>by simp at hl
 | _::_,[],hl,_=>by simp at hl
section
variable {prog:Program}{w:World}{A:Around}{E:Value->Shared->Prop}{s:Shared}
open PySem.Calls PySem.W in
theorem gather {T:String}{r d:Addr}{n:Nat}{P:Nat->Value->Prop}{OK:Heap->Prop}{G:List Value->Shared->Prop}(src:KdlSrc prog w T r d n P OK)(calm:A.handled=none)(ok:OK s.heap)(cX:n<=sizeLine)
  (fin:∀(g:Heap) (tk:Nat) (got:Array Value),(∀b o,s.heap.get? b=some o->g.get? b=some o)->ItemsOf P got n->s.heap.objs.size<=g.objs.size->G got.toList { s with heap:=g,toks:=tk }) :
  wpAny (model prog w) A (collect (.ref r)) G E s:=by
 obtain⟨lt1,lt2⟩:=src.there _ ok
 unfold collect
 refine IW (wpAny_runValue (Je entry_proto_collect' ?_))
 rw [Hs PySem.F.plain_proto_collect _]
 show wpAny _ A.in1 (newList [] >>= fun z=>again (.builtin "list.__iadd__" ⟨[z,.ref r],[]⟩)) _ _ s
 refine IW (Jc (IX ⟨plainId_quiet PySem.F.plain_list_iadd _,Je entry_list_iadd' ?_⟩))
 rw [Hs PySem.F.plain_list_iadd _]
 show wpAny _ A.in1 (Builtin.List.listExtendWith (.ref s.heap.objs.size) (.ref r) (.ref s.heap.objs.size)) _ _ _
 have made:(s.heap.push { cls:=.type "list",data:=.seq ([]:List Value).toArray }).get? s.heap.objs.size=some { cls:=.type "list",data:=.seq #[] }:=Gu _ rfl
 have run:=kdl_extend (A:=A) (s:={ s with heap:=s.heap.push { cls:=.type "list",data:=.seq ([]:List Value).toArray } })
  (R:=fun (z:Result) (t:Shared)=>∃(g:Heap) (tk:Nat) (got:Array Value) (c:Nat),z=.ok (.ret (.ref s.heap.objs.size))/\t={ s with heap:=g,toks:=tk } /\
   (∀b o,s.heap.get? b=some o->g.get? b=some o)/\g.get? s.heap.objs.size=some { cls:=.type "list",dict:=none,data:=.seq got c,slots:=#[] }/\ItemsOf P got n)
  src calm (src.keep _ _ ok fun b _ o e=>Gp _ e) s.heap.objs.size (Hk lt1) (Hk lt2) (.ref s.heap.objs.size) 0 made
  (fun g tk got c kept at_ its=>⟨g,tk,got,c,rfl,rfl,fun b o e=>kept b o (Gs (Gm e)) (Gp _ e),at_,its⟩) cX
 refine IY run (fun z t x=>?_) fun z t ⟨_,_,_,_,bad,_⟩=>by cases bad
 cases z with
 | done f =>
  obtain⟨g,tk,got,c,e,rfl,kept,at_,its⟩:=x
  cases e
  show wpAny _ A (load s.heap.objs.size >>= _) _ _ _
  exact IW (wpAny_load at_ (IX (fin g tk got kept its (GZ (Gm at_)))))
 | again more =>
  refine⟨x.1,Jh x.2 fun z' t' ⟨g,tk,got,c,e1,e2,kept,at_,its⟩=>?_⟩
  subst e1 e2
  show wpAny _ A (load s.heap.objs.size >>= _) _ _ _
  exact IW (wpAny_load at_ (IX (fin g tk got kept its (GZ (Gm at_)))))
theorem ud {a:Addr}{kvs:List (Key×Value)}{ks:List Str}{Q:Value->Shared->Prop}(hh:A.handled=none)(lo:(a == sysModules)=false)(dd:s.heap.DictOf (aQ prog w) a kvs)
  (hk:kvs.map (·.1)=ks.map Sum.inr) (h64:ks.length<64)
  (h:∀(h':Heap) (tk:Nat) (D:Addr) (out:Array Value) (ss':List Str) (e:Nat),(∀b o,s.heap.get? b=some o->h'.get? b=some o)->s.heap.objs.size<=D->h'.get? D=some { cls:=.type "list",data:=.seq out e } ->
   StrsAre out.toList ss'->ss'.Perm ks->sortedS ss' = true->Q (.ref D) { s with heap:=h',toks:=tk }) :
  wpAny (model prog w) A (call (.builtin "sorted") [.ref a]) Q E s:=by
 refine Calls.call_function_entry kind_sorted plain_sorted entry_sorted (args_sorted1 _) ?_
 unfold Builtin.«sorted»
 refine IW (m:=checkCount "sorted" 1 1 _) (IX ?_)
 obtain⟨ep,hat⟩:=dd.dictAt
 have hlk:kvs.length=ks.length:=by have:=congrArg Hb hk;simpa using this
 have hs:sizeLine=16777216\/64<=sizeLine:=.inr (by decide)
 have hz:kvs.length<=sizeLine:=by rw [hlk];exact Gr (GZ h64) (by decide)
 refine IW (gather (A:=A.in1) (PySem.W.kdl_dict (knd:=aQ prog w) (kvs:=kvs) (ep:=ep) lo) hh hat hz fun h' tk acc hkeep hacc hsz=>?_)
 have hl:acc.toList.length=ks.length:=by rw [G7,hacc.1,hlk]
 have hS:StrsAre acc.toList ks:=pU hl fun j v x h1 h2=>by
  obtain⟨k,y,e1,e2⟩:=hacc.2 j v (by rw [<-HS];exact h1)
  have e3:(kvs.map (·.1))[j]?=some k:=by rw [Gz,e1];rfl
  rw [hk,Gz,h2] at e3
  cases (Gy.inj e3)
  exact jS e2
 refine IW (Jw ?_ (by rw [hl];exact Gr (GZ h64) (by decide)))
 have hoL:(h'.push (seqObj "list" acc.toList.toArray 0)).get? h'.objs.size=some (seqObj "list" acc.toList.toArray 0):=Gu _ rfl
 refine IW (IZ (Ja slot_list_sort ⟨_,hoL,rfl⟩ entry_list_sort (list_sort_treeK strKind_oneLt hoL hS.keysOf (fun v₁ v₂ rest e=>keyKind_strs (by rw [<-e];exact hS)) (by rw [hl];exact h64) fun st' a1 a2=>⟨_,rfl,?_⟩) (args_list_sort _)))
 obtain⟨ss',b1,b2,b3⟩:=sorted_out_str hS a1 a2
 obtain⟨e,he⟩:=sortedHeap_at (out:=(arrOf st').map (·.2)) hoL
 refine IX ⟨_,rfl,h _ tk _ _ ss' e (fun b o ho=>?_) hsz he b1 b2 b3⟩
 have h1:=hkeep b o ho
 have hlt:=Gm h1
 rw [sortedHeap_old (Gs hlt) (by rw [size_push'];exact G6 hlt)]
 exact Gp _ h1
end
theorem qU:∀{us:List Value} {ys:List Str},StrsAre us ys->Vals (ys.map V.str) us
 | _,_,.nil=>.nil
 | _,_,.cons x t r=>.cons ⟨t,rfl⟩ (qU r)
section
variable {X:Cx}
theorem jo (hc:X.calm=true):dW X (.builtin "sorted") (fun vs H Q=>∃(a:Addr) (kvs:List (Key×V)) (ks:List Str),vs=[.ref a]/\H a=some (.dK kvs)/\kvs.map (·.1)=ks.map Sum.inr/\ks.length<64 /\
  ∀(l:Addr) (ss:List Str),ss.Perm ks->sortedS ss=true->H l=none->Q (.ref l) (upd H l (.lst (ss.map V.str)))):=by
 intro pins s Gf H xs us Q I r h
 obtain⟨a,kvs,ks,rfl,ha,hk,h64,q⟩:=h
 obtain⟨u,rfl,ru⟩:=vals1 r
 cases (show u=Value.ref a from ru)
 obtain⟨z,hd,vs,rel,dd⟩:=ng I.aL ha
 refine ud (I.ok.hd hc) hd dd (by rw [<-rel.keys];exact hk) h64 fun h' tk D out ss' e hkeep hD he hS hp hs=>?_
 have hv:Vals (ss'.map V.str) out.toList:=qU hS
 refine⟨.ref D,_,I.laid (t':=tk) (o:=.lst (ss'.map V.str)) hkeep hD (show bM X.prog X.w _ h' _ (.lst (ss'.map V.str)) from ⟨?_,out.toList,e,hv,by simpa using he⟩),rfl,q D ss' hp hs (I.aL.fresh hD)⟩
 rw [Gi,hp.length_eq]
 exact Gr (GZ h64) (by decide)
end
theorem Aw {kvs:List (Key×V)}{k:Key}{v:V}(nd:(kvs.map (·.1)).Nodup)(h:(k,v)∈kvs):b5 kvs k=some v:=by
 induction kvs with
 | nil=>cases h
 | cons p r ih =>
  obtain⟨k',v'⟩:=p
  rw [GK,Ho] at nd
  rcases Gn.mp h with e | h
  ·cases e
   simp [b5]
  ·have hne:¬k' = k:=fun z=>nd.1 (by rw [z];exact GL.mpr ⟨(k,v),h,rfl⟩)
   have:=ih nd.2 h
   simp [b5,hne] at this ⊢
   exact this
section
variable {X:Cx}
end
theorem sub_len {α : Type}[DecidableEq α]:∀{l m:List α},l.Nodup->(∀x∈l,x∈m)->l.length<=m.length
 | [],_,_,_=>GI _
 | x::l,m,nd,h=>by
  rw [Ho] at nd
  have hx:=h x (Gx ..)
  have h1:=sub_len (l:=l) (m:=m.erase x) nd.2 fun y hy=>(List.mem_erase_of_ne (fun z=>nd.1 (by rw [<-z];exact hy))).mpr (h y (Gv _ hy))
  rw [List.length_erase_of_mem hx] at h1
  have h2:0<m.length:=List.length_pos_of_mem hx
  show l.length+1<=m.length
  omega
theorem fb:bootBuiltins "sorted" = some (.builtin "sorted"):=PyProof.Rows.boot_sorted
theorem mi {kvs:List (Key×V)}{k:Key}{v:V}:(putK kvs k v).map (·.1)=kvs.map (·.1)/\k∈kvs.map (·.1)\/(putK kvs k v).map (·.1)=kvs.map (·.1)++[k]/\¬k∈kvs.map (·.1):=by
 unfold putK
 by_cases h:(kvs.any fun kv=>decide (kv.1=k))=true
 ·rw [if_pos h]
  refine .inl ⟨?_,?_⟩
  ·rw [HK]
   refine Ir fun p _=>?_
   show (if p.1=k then (p.1,v) else p).1=p.1
   split <;> rfl
  ·obtain⟨p,hp,he⟩:=List.any_eq_true.mp h
   exact GL.mpr ⟨p,hp,of_decide_eq_true he⟩
 ·rw [if_neg h]
  refine .inr ⟨by rw [GF];rfl,fun hm=>h ?_⟩
  obtain⟨p,hp,he⟩:=GL.mp hm
  exact List.any_eq_true.mpr ⟨p,hp,decide_eq_true he⟩
def fi:di->Str
 | .put x _=>x
 | .copy x _=>x
 | .add x _=>x
 | .read x=>x
 | .tell x=>x
theorem ue (dd:di):fq (ni dd) 1=some (.str (fi dd)):=by cases dd <;> exact dA
theorem ft.name {xs:List Str}{dd:di}(h:ft xs dd):fi dd∈xs:=by
 cases dd with
 | put x n=>exact h.1
 | copy x y=>exact h.1
 | add x n=>exact h.1
 | read x=>exact h
 | tell x=>exact h
section
variable {X:Cx}
end
section
variable {a0 a1 z:V}
end
section
variable {C D:Addr}{H H':Hp}{wp p pl d nl sl:Addr}{plv:V}{nums:List Int}{S:RS}{m:Nat}
end
section
variable (C D:Addr)
end
section
variable {C D:Addr}{H H':Hp}{wp p pl d nl sl st d2 tl bl np:Addr}{plv:V}{nums nums':List Int}{S S':RS}{m m':Nat}
end
section
variable (C D:Addr)
end
section
variable {C D:Addr}{H0 H H1 H2:Hp}{wp p pl d nl sl st st' d2 tl bl np b:Addr}{plv:V}{nums more:List Int}{S S':RS}{m m':Nat}
end
section
variable {X:Cx}
inductive EG  (x:V) (y:V) (H:Hp) (Q:VK):Prop
 | mk (a b xs ys:_) (_:x=.ref a) (_:y=.ref b) (_:H a=some (.tup xs)) (_:H b=some (.tup ys)) (_:xs.length+ys.length<=sizeLine) (_:∀t H',H' t=some (.tup (xs++ys))->af H H'->Q (.ref t) H')
theorem wc:eG X (binaryOp .Add) EG:=by
 intro pins s Gf H x y v u Q I rx ry h
 obtain⟨a,b,xs,ys,rfl,rfl,ha,hb,hz,q⟩:=h
 cases rx
 cases ry
 obtain⟨its,r1,p1,_⟩:=I.tuple (av.of ha)
 obtain⟨its2,r2,p2,_⟩:=I.tuple (av.of hb)
 by_cases hx:xs=[]
 ·subst hx
  have hi:its=[]:=r1.qM.mpr rfl
  subst hi
  obtain⟨⟨cls,dd,data,sl⟩,ho,hc,n,hd⟩:=id p1
  obtain⟨⟨cls2,dd2,data2,sl2⟩,ho2,hc2,n2,hd2⟩:=id p2
  simp only at hc hd hc2 hd2
  subst hc hd hc2 hd2
  exact concat_meets ⟨_,ho,rfl⟩ ⟨_,ho2,rfl⟩ noFill_tuple_add seq_tuple_add PySem.F.slot_tuple_add PySem.F.entry_tuple_add (PySem.F.args_tuple_add_2 _ _)
   (tuple_addW0 a b [].toArray its2.toArray n n2 dd dd2 sl sl2 (by simp)) ⟨ho,ho2,⟨.ref b,H,I,rfl,q b H hb (af.refl H)⟩⟩
 ·refine HT.BZ p1 p2 (fun z=>hx (r1.qM.mp z)) (fun z=>⟨.ref a,H,I,rfl,q a H (by rw [r2.qM.mp z,Hm];exact ha) (af.refl H)⟩) (fun z=>?_) (by rw [<-r1.length,<-r2.length];exact hz)
  have fr:=I.aL.fresh (a:=s.heap.objs.size) (Gj _)
  refine⟨.ref s.heap.objs.size,_,I.laid (t':=s.toks) (o:=.tup (xs++ys)) (fun b ob q=>Gp _ q) (Gj _) ?_,rfl,q _ _ aa (af.new fr)⟩
  exact⟨by rw [Gq];exact hz,_,r1.append r2,⟨_,Gu _ rfl,rfl,_,rfl,rfl⟩⟩
end
section
variable {ps:List Piece}{nums more:List Int}{S S0:RS}{m n:Nat}
end
section
variable {ps:List Piece}{nums more:List Int}{S:RS}{m n:Nat}
end
inductive Call where
 | hand (ns:List Int)
 | go (n:Nat)
structure DO where
 S:RS
 nums:List Int
 m:Nat
structure WA where
 wp:Addr
 p:Addr
 pl:Addr
 d:Addr
 nl:Addr
 sl:Addr
section
variable {C D:Addr}{H H' H0:Hp}{x y:WA}{pv pv':V}{s s':DO}{c:Addr}{o:HO}
end
section
variable (C D:Addr)
end
section
variable {C D:Addr}{H0 H H1:Hp}{w0 w1 w2:WA}{wl cl nb:Addr}{plv ov:V}{x0 x1 x2 x':DO}{n0 n1 n':List Int}{vs:List V}{cs:List Call}
end
section
variable {prog:Program}{w:World}{A:Around}{E:Value->Shared->Prop}{s:Shared}
theorem uf {j t:Addr}{n:Nat}{its:Array Value}{x:Value}{Q:Value->Shared->Prop}(hj:s.heap.IsTupleIter j t n)(ht:s.heap.IsTuple t its)(hx:its[n]?=some x)
  (hQ:∀g,g.IsTupleIter j t (n+1)->GW j s.heap g->Q x { s with heap:=g }):wpAny (model prog w) A (Builtin.SmallTypes.nextOf (.ref j)) Q E s:=by
 obtain⟨ob,eo,ec,ed⟩:=id hj
 obtain⟨ot,et,_,k,ek⟩:=ht
 unfold Builtin.SmallTypes.nextOf
 refine IW (wpAny_callSpecial?_slot (name:=Str.ofString "__next__") hj.typeIs F.slot_tuple_iterator_next (Ja F.slot_tuple_iterator_next hj.typeIs F.entry_tuple_iterator_next ?_ (F.args_tuple_iterator_next_1 _)))
 show wpAny _ _ (field (.ref j) 0 >>= _) _ _ s
 refine IW (Jd eo ed (x:=.ref t) rfl ?_)
 show wpAny _ _ (if (Value.ref t == Value.none)=true then _ else _) _ _ s
 refine (if_neg (c:=(Value.ref t == Value.none)=true) GJ) ▸ ?_
 show wpAny _ _ (field (.ref j) 1 >>= _) _ _ s
 refine IW (Jd eo ed (x:=.int n 0) rfl (IW (Jf et ek ?_)))
 simp only [hx,Hw]
 refine IW (Ji eo ed (by simp) (IX ⟨x,rfl,IX (hQ _ ⟨_,Hq _ eo (Obj.isFreed_of_fields (Obj.data_mapFields ed _)),(Obj.cls_mapFields ..).trans ec,?_⟩ (GW.update ..))⟩))
 rw [Obj.data_mapFields ed];simp [rawInt]
theorem we {j t:Addr}{n:Nat}{its:Array Value}{Q:Value->Shared->Prop}(ha:A.handled=none)(hj:s.heap.IsTupleIter j t n)(ht:s.heap.IsTuple t its)(hx:its[n]?=none)
    (hE:∀g e,Heap.ExtBut j s.heap g->(∃o,g.get? e=some o/\o.cls=.type "StopIteration")->E (.ref e) { s with heap:=g }):wpAny (model prog w) A (Builtin.SmallTypes.nextOf (.ref j)) Q E s:=by
  obtain⟨ob,eo,ec,ed⟩:=id hj
  obtain⟨ot,et,_,k,ek⟩:=ht
  unfold Builtin.SmallTypes.nextOf
  refine IW (wpAny_callSpecial?_slot (name:=Str.ofString "__next__") hj.typeIs F.slot_tuple_iterator_next (Ja F.slot_tuple_iterator_next hj.typeIs F.entry_tuple_iterator_next ?_ (F.args_tuple_iterator_next_1 _)))
  show wpAny _ _ (field (.ref j) 0 >>= _) _ _ s
  refine IW (Jd eo ed (x:=.ref t) rfl ?_)
  show wpAny _ _ (if (Value.ref t == Value.none)=true then _ else _) _ _ s
  refine (if_neg (c:=(Value.ref t == Value.none)=true) GJ) ▸ ?_
  show wpAny _ _ (field (.ref j) 1 >>= _) _ _ s
  refine IW (Jd eo ed (x:=.int n 0) rfl (IW (Jf et ek ?_)))
  simp only [hx,Hw]
  refine IW (Jg (IW (Ji eo ed (by simp) ?_)))
  show wpAny _ _ (newExc (.type "StopIteration") [] >>= fun _=>_) _ _ _
  refine IW ?_
  simp only [newTuple,newExc]
  refine IW (Jc (IW (m:=firstArgMember _ _) (wpAny_of_eq (a:=Value.none) (by first | rfl | (simp only [firstArgMember];rfl)) (Jc ?_ (by size_fits)))) (by size_fits))
  simp only [raiseNew]
  refine IW (wpAny_handled (by
    first | rw [show A.in1.handled=none from ha] | rw [ha]
    exact IW (IX (wpAny_throw (hE _ _ (((GW.update ..).extBut.push _).push _) ⟨_,Gu _ rfl,rfl⟩)))))
structure wg (z p q j k a b:Addr):Prop where
 pz:p≠z
 qz:q≠z
 jz:j≠z
 kz:k≠z
 pq:p≠q
 pj:p≠j
 pk:p≠k
 qj:q≠j
 qk:q≠k
 jk:j≠k
 az:a≠z
 aq:a≠q
 aj:a≠j
 ak:a≠k
 bz:b≠z
 bq:b≠q
 bj:b≠j
 bk:b≠k
theorem ja {h g:Heap}{a:Addr}{xs:Array Value}(x:h.IsTuple a xs)(k:∀o,h.get? a=some o->g.get? a=some o):g.IsTuple a xs:=by
 obtain⟨o,e,r⟩:=x
 exact⟨o,k o e,r⟩
theorem Cj {z p q j k a b:Addr}{m n:Nat}{xs ys:Array Value}{x y u v:Value}{Q:Value->Shared->Prop}(D:wg z p q j k a b)
  (gz:IsZip s.heap z p q .none) (gp:IsPair s.heap p (.ref j) (.ref k)) (gq:IsPair s.heap q u v)
  (gj:s.heap.IsTupleIter j a m) (gk:s.heap.IsTupleIter k b n) (ga:s.heap.IsTuple a xs) (gb:s.heap.IsTuple b ys) (hx:xs[m]?=some x) (hy:ys[n]?=some y)
  (hQ:∀g,IsZip g z p q (rawInt s.heap.objs.size)->IsPair g q x y->g.IsTupleIter j a (m+1)->g.IsTupleIter k b (n+1)->IsPair g s.heap.objs.size x y->g.objs.size=s.heap.objs.size+1 ->
   (∀c o,c≠z->c≠q->c≠j->c≠k->s.heap.get? c=some o->g.get? c=some o)->Q (.ref s.heap.objs.size) { s with heap:=g }) :
  wpAny (model prog w) A (Builtin.«zip.__next__» ⟨[.ref z],[]⟩) (fun fin s'=>∃v,fin=.done (.ret v)/\Q v s') E s:=by
 show wpAny _ _ (field (.ref z) 2 >>= fun _=>_) _ _ _
 refine IW (Jd gz rfl (x:=.bool false) rfl ?_)
 show wpAny _ _ (field (.ref z) 3 >>= fun _=>_) _ _ _
 refine IW (Jd gz rfl (x:=.ref p) rfl (IW (Jf gp rfl ?_)))
 show wpAny _ _ (Builtin.SmallTypes.ownedTupleIsFree (.ref z) >>= fun _=>_) _ _ _
 refine IW ?_
 unfold Builtin.SmallTypes.ownedTupleIsFree
 refine IW (Jd gz rfl (x:=.none) rfl (IX ?_))
 simp only [if_true]
 refine IW (Jg (IW (Jd gz rfl (x:=.ref q) rfl (IW (Jo gz (by simp) fun g1 gz1 t1=>?_)))))
 replace gz1:IsZip g1 z p q .ellipsis:=gz1
 refine IW ?_
 simp only [HD,Iu,List.zipIdx_cons,List.zipIdx_nil]
 refine IW (IW (Jx ?_))
 show wpAny _ _ (Builtin.SmallTypes.nextOf (.ref j) >>= fun _=>_) _ _ _
 refine IW (uf (gj.extBut t1.extBut D.jz) (ja ga fun o e=>t1.extBut _ _ D.az e) hx fun g2 gj2 t2=>IX ?_)
 have gq2:IsPair g2 q u v:=t2.extBut _ _ D.qj (t1.extBut _ _ D.qz gq)
 refine IW (Jf gq2 rfl (IW (JD gq2 fun g3 gq3 t3=>?_)))
 replace gq3:IsPair g3 q x v:=gq3
 refine IW (wpAny_letGo (IX (IW (IW (Jx ?_)))))
 show wpAny _ _ (Builtin.SmallTypes.nextOf (.ref k) >>= fun _=>_) _ _ _
 refine IW (uf (((gk.extBut t1.extBut D.kz).extBut t2.extBut D.jk.symm).extBut t3.extBut D.qk.symm) (ja gb fun o e=>t3.extBut _ _ D.bq (t2.extBut _ _ D.bj (t1.extBut _ _ D.bz e))) hy fun g4 gk4 t4=>IX ?_)
 have gq4:IsPair g4 q x v:=t4.extBut _ _ D.qk gq3
 refine IW (Jf gq4 rfl (IW (JD gq4 fun g5 gq5 t5=>?_)))
 replace gq5:IsPair g5 q x y:=gq5
 refine IW (wpAny_letGo (IX (IX (IW (Jf gq5 rfl (IW (wpAny_newTuple ?_)))))))
 have ez:g5.objs.size=s.heap.objs.size:=by rw [t5.1,t4.1,t3.1,t2.1,t1.1]
 have gz5:IsZip g5 z p q .ellipsis:=t5.extBut _ _ D.qz.symm (t4.extBut _ _ D.kz.symm (t3.extBut _ _ D.qz.symm (t2.extBut _ _ D.jz.symm gz1)))
 have k5:∀c o,c≠z->c≠q->c≠j->c≠k->s.heap.get? c=some o->g5.get? c=some o:=fun c o c1 c2 c3 c4 e=>t5.extBut _ _ c2 (t4.extBut _ _ c4 (t3.extBut _ _ c2 (t2.extBut _ _ c3 (t1.extBut _ _ c1 e))))
 have gj5:g5.IsTupleIter j a (m+1):=((gj2.extBut t3.extBut D.qj.symm).extBut t4.extBut D.jk).extBut t5.extBut D.qj.symm
 have gk5:g5.IsTupleIter k b (n+1):=gk4.extBut t5.extBut D.qk.symm
 have lz:z<g5.objs.size:=Gm gz5
 show wpAny _ _ (Builtin.SmallTypes.ownedTupleHandOut (.ref z) (.ref g5.objs.size) >>= fun _=>_) _ _ _
 refine IW ?_
 unfold Builtin.SmallTypes.ownedTupleHandOut
 have gz6:IsZip (g5.push { cls:=.type "tuple",data:=.seq #[x,y] }) z p q .ellipsis:=Gp _ gz5
 refine IW (Jo gz6 (by simp) fun g7 gz7 t7=>?_)
 replace gz7:IsZip g7 z p q (rawInt g5.objs.size):=gz7
 refine Jo gz7 (by simp) fun g8 gz8 t8=>?_
 replace gz8:IsZip g8 z p q (rawInt g5.objs.size):=gz8
 have up:∀c o,c≠z->g5.get? c=some o->g8.get? c=some o:=fun c o c1 e=>t8.extBut _ _ c1 (t7.extBut _ _ c1 (Gp _ e))
 have gT:IsPair g8 g5.objs.size x y:=t8.extBut _ _ (Hk lz) (t7.extBut _ _ (Hk lz) (Gu _ rfl))
 have e8:g8.objs.size=g5.objs.size+1:=by rw [t8.1,t7.1,GP]
 rw [ez] at gz8 gT e8
 refine IX ⟨_,rfl,?_⟩
 show Q (.ref g5.objs.size) _
 rw [ez]
 refine hQ g8 gz8 (up _ _ D.qz gq5) ?_ ?_ gT e8 fun c o c1 c2 c3 c4 e=>up c o c1 (k5 c o c1 c2 c3 c4 e)
 ·obtain⟨o,e,r⟩:=gj5
  exact⟨o,up _ _ D.jz e,r⟩
 ·obtain⟨o,e,r⟩:=gk5
  exact⟨o,up _ _ D.kz e,r⟩
theorem DP {z p q j k a b:Addr}{m n:Nat}{xs ys:Array Value}{u v:Value}{Q:Fin->Shared->Prop}(ha:A.handled=none)(D:wg z p q j k a b)
  (gz:IsZip s.heap z p q .none) (gp:IsPair s.heap p (.ref j) (.ref k)) (gq:IsPair s.heap q u v)
  (gj:s.heap.IsTupleIter j a m) (gk:s.heap.IsTupleIter k b n) (ga:s.heap.IsTuple a xs) (gb:s.heap.IsTuple b ys) (hend:xs[m]?=none\/ys[n]?=none)
  (hE:∀g e,(∀c o,c≠z->c≠q->c≠j->c≠k->s.heap.get? c=some o->g.get? c=some o)->(∃o,g.get? e=some o/\o.cls=.type "StopIteration")->E (.ref e) { s with heap:=g }) :
  wpAny (model prog w) A (Builtin.«zip.__next__» ⟨[.ref z],[]⟩) Q E s:=by
 show wpAny _ _ (field (.ref z) 2 >>= fun _=>_) _ _ _
 refine IW (Jd gz rfl (x:=.bool false) rfl ?_)
 show wpAny _ _ (field (.ref z) 3 >>= fun _=>_) _ _ _
 refine IW (Jd gz rfl (x:=.ref p) rfl (IW (Jf gp rfl ?_)))
 show wpAny _ _ (Builtin.SmallTypes.ownedTupleIsFree (.ref z) >>= fun _=>_) _ _ _
 refine IW ?_
 unfold Builtin.SmallTypes.ownedTupleIsFree
 refine IW (Jd gz rfl (x:=.none) rfl (IX ?_))
 simp only [if_true]
 refine IW (Jg (IW (Jd gz rfl (x:=.ref q) rfl (IW (Jo gz (by simp) fun g1 gz1 t1=>?_)))))
 replace gz1:IsZip g1 z p q .ellipsis:=gz1
 refine IW ?_
 simp only [HD,Iu,List.zipIdx_cons,List.zipIdx_nil]
 refine IW (IW (Jx ?_))
 show wpAny _ _ (Builtin.SmallTypes.nextOf (.ref j) >>= fun _=>_) _ _ _
 cases hx:xs[m]? with
 | none =>
  refine IW (we ha (gj.extBut t1.extBut D.jz) (ja ga fun o e=>t1.extBut _ _ D.az e) hx fun g2 e t2 he=>?_)
  obtain⟨oe,eoe,ce⟩:=he
  have gz2:IsZip g2 z p q .ellipsis:=t2 _ _ D.jz.symm gz1
  have ne:e≠z:=fun x=>by subst x;rw [gz2] at eoe;cases eoe;simp at ce
  exact Jo gz2 (by simp) fun g3 _ t3=>hE g3 e (fun c o c1 _ c3 _ x=>t3.extBut _ _ c1 (t2 _ _ c3 (t1.extBut _ _ c1 x))) ⟨oe,t3.extBut _ _ ne eoe,ce⟩
 | some x =>
  have hy:ys[n]?=none:=hend.elim (fun h=>by rw [hx] at h;cases h) id
  refine IW (uf (gj.extBut t1.extBut D.jz) (ja ga fun o e=>t1.extBut _ _ D.az e) hx fun g2 gj2 t2=>IX ?_)
  have gq2:IsPair g2 q u v:=t2.extBut _ _ D.qj (t1.extBut _ _ D.qz gq)
  refine IW (Jf gq2 rfl (IW (JD gq2 fun g3 gq3 t3=>?_)))
  refine IW (wpAny_letGo (IX (IW (IW (Jx ?_)))))
  show wpAny _ _ (Builtin.SmallTypes.nextOf (.ref k) >>= fun _=>_) _ _ _
  refine IW (we ha (((gk.extBut t1.extBut D.kz).extBut t2.extBut D.jk.symm).extBut t3.extBut D.qk.symm) (ja gb fun o e=>t3.extBut _ _ D.bq (t2.extBut _ _ D.bj (t1.extBut _ _ D.bz e))) hy fun g4 e t4 he=>?_)
  obtain⟨oe,eoe,ce⟩:=he
  have gz4:IsZip g4 z p q .ellipsis:=t4 _ _ D.kz.symm (t3.extBut _ _ D.qz.symm (t2.extBut _ _ D.jz.symm gz1))
  have ne:e≠z:=fun x=>by subst x;rw [gz4] at eoe;cases eoe;simp at ce
  exact Jo gz4 (by simp) fun g5 _ t5=>hE g5 e (fun c o c1 c2 c3 c4 x=>t5.extBut _ _ c1 (t4 _ _ c4 (t3.extBut _ _ c2 (t2.extBut _ _ c3 (t1.extBut _ _ c1 x))))) ⟨oe,t5.extBut _ _ ne eoe,ce⟩
theorem Ck {z p q j k a b:Addr}{m n:Nat}{xs ys:Array Value}{x y u v:Value}{Q:Option Value->Shared->Prop}(D:wg z p q j k a b)
  (gz:IsZip s.heap z p q .none) (gp:IsPair s.heap p (.ref j) (.ref k)) (gq:IsPair s.heap q u v)
  (gj:s.heap.IsTupleIter j a m) (gk:s.heap.IsTupleIter k b n) (ga:s.heap.IsTuple a xs) (gb:s.heap.IsTuple b ys) (hx:xs[m]?=some x) (hy:ys[n]?=some y)
  (hQ:∀g,IsZip g z p q (rawInt s.heap.objs.size)->IsPair g q x y->g.IsTupleIter j a (m+1)->g.IsTupleIter k b (n+1)->IsPair g s.heap.objs.size x y->g.objs.size=s.heap.objs.size+1 ->
   (∀c o,c≠z->c≠q->c≠j->c≠k->s.heap.get? c=some o->g.get? c=some o)->Q (some (.ref s.heap.objs.size)) { s with heap:=g }) :
  wpAny (model prog w) A (pyNext (.ref z)) Q E s:=by
 have ty:s.TypeIs (.ref z) "zip" := ⟨_,gz,rfl⟩
 unfold pyNext
 exact IW (Jj (wpAny_callSpecial?_slot (name:=Str.ofString "__next__") ty F.slot_zip_next (Ja F.slot_zip_next ty F.entry_zip_next
   (Cj D gz gp gq gj gk ga gb hx hy fun g a1 a2 a3 a4 a5 a6 a7=>IX (hQ g a1 a2 a3 a4 a5 a6 a7)) (F.args_zip_next_1 _))))
theorem Cm {z p q j k a b:Addr}{m n:Nat}{xs ys:Array Value}{u v:Value}{Q:Option Value->Shared->Prop}(ha:A.handled=none)(D:wg z p q j k a b)
  (gz:IsZip s.heap z p q .none) (gp:IsPair s.heap p (.ref j) (.ref k)) (gq:IsPair s.heap q u v)
  (gj:s.heap.IsTupleIter j a m) (gk:s.heap.IsTupleIter k b n) (ga:s.heap.IsTuple a xs) (gb:s.heap.IsTuple b ys) (hend:xs[m]?=none\/ys[n]?=none)
  (hQ:∀g,(∀c o,c≠z->c≠q->c≠j->c≠k->s.heap.get? c=some o->g.get? c=some o)->Q none { s with heap:=g }):wpAny (model prog w) A (pyNext (.ref z)) Q E s:=by
 have ty:s.TypeIs (.ref z) "zip" := ⟨_,gz,rfl⟩
 unfold pyNext
 refine IW (Jj (wpAny_callSpecial?_slot (name:=Str.ofString "__next__") ty F.slot_zip_next (Ja F.slot_zip_next ty F.entry_zip_next
   (DP ha D gz gp gq gj gk ga gb hend fun g e hk he=>?_) (F.args_zip_next_1 _))))
 obtain⟨o,eo,ec⟩:=he
 exact IW (Jr (T := "StopIteration") (b:=true) ⟨o,eo,ec⟩ isSubtype_stop (IX (hQ _ hk)))
abbrev yT (h:Heap)(a:Addr):Heap:=h.push { cls:=.type "tuple_iterator",data:=.fields #[.ref a,.int 0 0] }
abbrev BB (h:Heap)(a b:Addr):Heap:=(yT h a).push { cls:=.type "tuple_iterator",data:=.fields #[.ref b,.int 0 0] }
abbrev BC (h:Heap)(a b:Addr):Heap:=(BB h a b).push { cls:=.type "tuple",data:=.seq #[.ref h.objs.size,.ref (yT h a).objs.size] }
abbrev BD (h:Heap)(a b:Addr):Heap:=(BC h a b).push { cls:=.type "tuple",data:=.seq #[.none,.none] }
abbrev wj (h:Heap)(a b:Addr):Heap:=(BD h a b).push { cls:=.type "zip",data:=.fields #[.none,.bool false,.bool false,.ref (BB h a b).objs.size,.ref (BC h a b).objs.size] }
theorem DQ (a b:Addr) (xs ys:Array Value):Meets (Builtin.«zip.__new__» ⟨[.type "zip",.ref a,.ref b],[]⟩) (fun _ R s=>s.heap.IsTuple a xs/\s.heap.IsTuple b ys /\
   R (.ok (.ret (.ref (BD s.heap a b).objs.size))) { s with heap:=wj s.heap a b }) :=
 .of_wp fun P w' A' R' s' hh=>by
  obtain⟨hp,g,d,tk,os⟩:=s'
  obtain⟨ga,gb,hh⟩:=hh
  have hsub:=sub_zip
  have la:Heap.IsTuple (Shared.heap ⟨hp,g,d,tk,os⟩) a xs:=ga
  have lb:Heap.IsTuple (Shared.heap ⟨yT hp a,g,d,tk,os⟩) b ys:=ja gb fun o e=>Gp _ e
  wp_walk using Jv la,Jv lb
  exact⟨_,rfl,hh⟩
theorem Cn {a b:Addr}{xs ys:Array Value}{Q:Value->Shared->Prop}(ga:s.heap.IsTuple a xs)(gb:s.heap.IsTuple b ys)
  (h:∀g,IsZip g (s.heap.objs.size+4) (s.heap.objs.size+2) (s.heap.objs.size+3) .none->IsPair g (s.heap.objs.size+2) (.ref s.heap.objs.size) (.ref (s.heap.objs.size+1)) ->
   IsPair g (s.heap.objs.size+3) .none .none->g.IsTupleIter s.heap.objs.size a 0->g.IsTupleIter (s.heap.objs.size+1) b 0 ->
   (∀c o,s.heap.get? c=some o->g.get? c=some o)->Q (.ref (s.heap.objs.size+4)) { s with heap:=g }) :
  wpAny (model prog w) A (call (.type "zip") [.ref a,.ref b]) Q E s:=by
 refine callType_new F.called_zip (by decide) (F.typeCall_zip_2 _ _) (F.newCall_zip_2 _ _) (fun obj=>F.args_object_init_3 obj _ _) F.entry_zip_new (DQ a b xs ys) ⟨ga,gb,?_⟩
 have z1:(yT s.heap a).objs.size=s.heap.objs.size+1:=GP ..
 have z2:(BB s.heap a b).objs.size=s.heap.objs.size+2:=by rw [GP,z1]
 have z3:(BC s.heap a b).objs.size=s.heap.objs.size+3:=by rw [GP,z2]
 have z4:(BD s.heap a b).objs.size=s.heap.objs.size+4:=by rw [GP,z3]
 have up:∀{h:Heap} {c:Addr} {o o':Obj},h.get? c=some o->(h.push o').get? c=some o:=fun e=>Gp _ e
 have q5:(wj s.heap a b).get? (BD s.heap a b).objs.size=some _:=Gu _ rfl
 have q4:(wj s.heap a b).get? (BC s.heap a b).objs.size=some _:=up (Gu _ rfl)
 have q3:(wj s.heap a b).get? (BB s.heap a b).objs.size=some _:=up (up (Gu _ rfl))
 have q2:(wj s.heap a b).get? (yT s.heap a).objs.size=some _:=up (up (up (Gu _ rfl)))
 have q1:(wj s.heap a b).get? s.heap.objs.size=some _:=up (up (up (up (Gu _ rfl))))
 show _/\_
 rw [z2,z3,z4] at q5
 rw [z1,z2] at q3
 rw [z3] at q4
 rw [z1] at q2
 rw [z4]
 exact⟨⟨_,q5,rfl⟩,h _ q5 q3 q4 ⟨_,q1,rfl,rfl⟩ ⟨_,q2,rfl,rfl⟩ fun c o x=>up (up (up (up (up x))))⟩
end
section
variable {X:Cx}{pins:List (Addr×Obj)}{Gf : List (Option V)}{H H':Hp}{s:Shared}{h':Heap}
theorem Inv.wm {t':Nat}{fp:List Addr}(I:Inv X pins Gf H s)(k:∀b o,b∉fp->s.heap.get? b=some o->h'.get? b=some o)(f:∀b∈fp,je X pins H b):Inv X pins Gf H { s with heap:=h',toks:=t' }:=by
 have nit:∀b u,H b=some u->b∉fp:=fun b u e z=>by rw [(f b z).1] at e;cases e
 refine I.step (g':=s.gens) (d':=s.drawn) (ch:=fp) (fun b hb=>?_) (fun b o _ _ hc e _=>k b o hc e) (fun b o _ _ hc e _=>⟨o.slots,k b o hc e⟩) (fun _ _ _ _ n=>n)
  (fun b o hc e=>⟨o,k b o hc e⟩) (fun _ _ e=>e) (fun _ _ _ e=>e) (fun b ps e=>⟨#[],by rw [e];simp⟩) (fun m hm=>?_) (fun b u e=>?_) I.bare
 ·obtain⟨f0,f1,f2,f3,f4,f5⟩:=f b hb
  exact⟨f3,f1,f4,f5⟩
 ·obtain⟨o,es,ep,ho,r⟩:=hm
  exact⟨o,es,ep,k _ o (fun z=>(f _ z).2.1 rfl) ho,r⟩
 ·refine (I.aL b u e).jP (fun c v hc q=>k c v ?_ q) (fun _ q=>q) fun _ _ q=>q
  rcases hc with z | z
  ·rw [z];exact nit b u e
  ·exact nit c _ z
def BE (K:Gh)(a b:Addr):It :=
 ⟨fun i H=>∃xs ys x y,av K H a xs/\av K H b ys/\xs[i]?=some x/\ys[i]?=some y,
  fun i H v H'=>∃t x y,v=.ref t/\H t=none/\H' = upd H t (.tup [x,y])/\∀xs ys,av K H a xs->av K H b ys->xs[i]?=some x/\ys[i]?=some y,
  fun i H=>∃xs ys,av K H a xs/\av K H b ys/\(xs.length<=i\/ys.length<=i)⟩
theorem Ax {P:Program}{w:World}{K:Gh}{elts:List Expr}{kk:Nat}{pos:Pos}(a b z p q j k:Addr)(D:wg z p q j k a b) :
    Turn P w K (.Tuple elts kk pos) (BE K a b) [z,p,q,j,k] z (fun i h=>IsZip h z p q .none/\IsPair h p (.ref j) (.ref k)/\(∃u v,IsPair h q u v)/\h.IsTupleIter j a i/\h.IsTupleIter k b i) where
  mem:=by simp
  obj:=fun i h st c hc=>by
    obtain⟨gz,gp,⟨u,v,gq⟩,⟨oj,ej,cj,dj⟩,⟨ok,ek,ck,dk⟩⟩:=st
    simp only [Gn,HL,or_false] at hc
    rcases hc with rfl | rfl | rfl | rfl | rfl
    . exact⟨_,gz,fun v e=>by cases e⟩
    . exact⟨_,gp,fun v e=>by cases e⟩
    . exact⟨_,gq,fun v e=>by cases e⟩
    . exact⟨oj,ej,fun v e=>by rw [dj] at e;cases e⟩
    . exact⟨ok,ek,fun v e=>by rw [dk] at e;cases e⟩
  keep:=fun i h g st kp=>by
    obtain⟨gz,gp,⟨u,v,gq⟩,⟨oj,ej,rj⟩,⟨ok,ek,rk⟩⟩:=st
    exact⟨kp z (by simp) _ gz,kp p (by simp) _ gp,⟨u,v,kp q (by simp) _ gq⟩,⟨oj,kp j (by simp) _ ej,rj⟩,⟨ok,kp k (by simp) _ ek,rk⟩⟩
  item:=by
    intro X hP hw hK hc i pins s Gf H E I hf st hg
    subst hP hw hK
    obtain⟨gz,gp,⟨u,v,gq⟩,gj,gk⟩:=st
    obtain⟨xs,ys,x,y,ha,hb,hx,hy⟩:=hg
    obtain⟨is,ra,pa,_⟩:=I.tuple ha
    obtain⟨js,rb,pb,_⟩:=I.tuple hb
    obtain⟨xv,hxv,rx⟩:=ra.get hx
    obtain⟨yv,hyv,ry⟩:=rb.get hy
    have sz:∀c∈[z,p,q,j,k],c≠s.heap.objs.size:=fun c hc e=>by
      subst e
      simp only [Gn,HL,or_false] at hc
      rcases hc with e | e | e | e | e
      . exact absurd (Gm gz) (by rw [<-e];exact G1 _)
      . exact absurd (Gm gp) (by rw [<-e];exact G1 _)
      . exact absurd (Gm gq) (by rw [<-e];exact G1 _)
      . obtain⟨oj,ej,_⟩:=gj
        exact absurd (Gm ej) (by rw [<-e];exact G1 _)
      . obtain⟨ok,ek,_⟩:=gk
        exact absurd (Gm ek) (by rw [<-e];exact G1 _)
    refine Ck D gz gp gq gj gk (show s.heap.IsTuple a is.toArray from pa) (show s.heap.IsTuple b js.toArray from pb) (x:=xv) (y:=yv) (by simpa using hxv) (by simpa using hyv) fun g a1 a2 a3 a4 a5 a6 hk=>?_
    refine⟨.ref s.heap.objs.size,rfl,wpAny_letOwnedTupleGo_zip a1 fun g' gz' sb=>?_⟩
    have fr:=I.aL.fresh (a:=s.heap.objs.size) (Gj _)
    have I1:Inv X pins Gf (upd H s.heap.objs.size (.tup [x,y])) { s with heap:=s.heap.push { cls:=.type "tuple",data:=.seq #[xv,yv] },toks:=s.toks } :=
      I.laid (fun _ _ e=>Gp _ e) (Gj _) ⟨by show 2<=sizeLine;decide,[xv,yv],.cons rx (.cons ry .nil),by first | exact IsTup.new _ _ | exact⟨_,Gu _ rfl,rfl,_,rfl,rfl⟩⟩
    have f1:∀c∈[z,p,q,j,k],je X pins (upd H s.heap.objs.size (.tup [x,y])) c:=fun c hc=>by
      obtain⟨f0,fr'⟩:=hf c hc
      exact⟨by rw [ao (sz c hc)];exact f0,fr'⟩
    have I2:Inv X pins Gf (upd H s.heap.objs.size (.tup [x,y])) { s with heap:=g',toks:=s.toks }:=Inv.wm (s:={ s with heap:=s.heap.push { cls:=.type "tuple",data:=.seq #[xv,yv] },toks:=s.toks }) (fp:=[z,p,q,j,k]) (h':=g') (t':=s.toks) I1 (fun c o hc e=>by
      simp only [Gn,HL,or_false,not_or] at hc
      refine sb.extBut _ _ hc.1 ?_
      rcases Heap.get?_push_cases e with ⟨rfl,rfl⟩ | e
      . exact a5
      . exact hk c o hc.1 hc.2.2.1 hc.2.2.2.1 hc.2.2.2.2 e) f1
    refine⟨.ref s.heap.objs.size,_,I2,rfl,⟨_,x,y,rfl,fr,rfl,fun xs' ys' h1 h2=>?_⟩,⟨gz',sb.extBut _ _ D.pz (hk _ _ D.pz D.pq D.pj D.pk gp),⟨xv,yv,sb.extBut _ _ D.qz a2⟩,a3.extBut sb.extBut D.jz,a4.extBut sb.extBut D.kz⟩,fun c hc=>(f1 c hc).1⟩
    rw [I.lV h1 ha,I.lV h2 hb]
    exact⟨hx,hy⟩
  done:=by
    intro X hP hw hK hc i pins s Gf H E I hf st hg
    subst hP hw hK
    obtain⟨gz,gp,⟨u,v,gq⟩,gj,gk⟩:=st
    obtain⟨xs,ys,ha,hb,hl⟩:=hg
    obtain⟨is,ra,pa,_⟩:=I.tuple ha
    obtain⟨js,rb,pb,_⟩:=I.tuple hb
    have la:=ra.length
    have lb:=rb.length
    have he:is.toArray[i]?=none\/js.toArray[i]?=none:=by
      rcases hl with h | h
      . exact .inl (by simp;omega)
      . exact .inr (by simp;omega)
    exact Cm (I.ok.hd hc) D gz gp gq gj gk (show s.heap.IsTuple a is.toArray from pa) (show s.heap.IsTuple b js.toArray from pb) he fun g hk=>⟨rfl,I.wm (fp:=[z,p,q,j,k]) (t':=s.toks) (fun c o hc e=>by
      simp only [Gn,HL,or_false,not_or] at hc
      exact hk c o hc.1 hc.2.2.1 hc.2.2.2.1 hc.2.2.2.2 e) hf⟩
  self:=fun _ _ _ _ _ st h=>wpAny_pyIter_zip st.1 h
theorem F5 {N a b:Nat}(ha:a<N)(hb:b<N):wg (N+4:Nat) (N+2:Nat) (N+3:Nat) N (N+1:Nat) a b :=
 have ne:∀{u v:Nat},u<v->¬(u=v):=fun h e=>by omega
 have ne':∀{u v:Nat},v<u->¬(u=v):=fun h e=>by omega
 ⟨ne (by omega),ne (by omega),ne (by omega),ne (by omega),ne (by omega),ne' (by omega),ne' (by omega),ne' (by omega),ne' (by omega),ne (by omega),ne (by omega),ne (by omega),ne (by omega),ne (by omega),ne (by omega),ne (by omega),ne (by omega),ne (by omega)⟩
theorem DR:bootBuiltins "zip" = some (.type "zip"):=by decide +kernel
inductive Co (K:Gh) (R:(It->Hp->Prop)) (vs:List V) (H1:Hp):Prop
 | mk (a b:_) (_:vs=[.ref a,.ref b]) (_:(∃xs,av K H1 a xs)) (_:(∃ys,av K H1 b ys)) (_:R (BE K a b) H1)
def FA (K:Gh)(ta:TA):TI:=fun Gf H R=>ta Gf H fun vs H1=>Co K R vs H1
theorem yU {a b:Expr} {ta:TA} {p pos tp:Pos} {elts:List Expr} {kk:Nat} (hg:Gl X "zip") (hm:X.mg "zip" = none) (ha:PA X [a,b] ta) (hs:starEach [a,b] X.env=[(false,eval a X.env),(false,eval b X.env)]:=by rfl) (hs2:starEach [b] X.env=[(false,eval b X.env)]:=by rfl) :
  PI X (.Tuple elts kk tp) (.Call (.Name "zip" p) [a,b] [] pos) (FA X.K ta):=by
 intro pins s Gf H R I h
 refine Call_ (j5 I hg hm DR (PyProof.Rows.callWith_type1 (bB (ha pos pins s Gf H _ I h) fun us s1 ⟨vs,H1,I1,r1,q1⟩=>?_) (by rw [hs,hs2]) (by rw [hs2];rfl)))
 obtain⟨x,y,e,⟨xs,hx⟩,⟨ys,hy⟩,q⟩:=q1
 subst e
 cases r1 with
 | cons r rr =>
  cases rr with
  | cons r' rr =>
   cases rr
   cases r
   cases r'
   obtain⟨is,rx,px,_⟩:=I1.tuple hx
   obtain⟨js,ry,py,_⟩:=I1.tuple hy
   have lx:x<s1.heap.objs.size:=px.lt
   have ly:y<s1.heap.objs.size:=py.lt
   refine Cn (show s1.heap.IsTuple x is.toArray from px) (show s1.heap.IsTuple y js.toArray from py) fun g gz gp gq gj gk up=>?_
   refine wpAny_pyIter_zip gz ?_
   have I2:Inv X pins Gf H1 { s1 with heap:=g }:=I1.kept (t':=s1.toks) up
   refine⟨_,[s1.heap.objs.size+4,s1.heap.objs.size+2,s1.heap.objs.size+3,s1.heap.objs.size,s1.heap.objs.size+1],_,BE X.K x y,H1,rfl,I2,Ax x y _ _ _ _ _ ?_,⟨gz,gp,⟨_,_,gq⟩,gj,gk⟩,fun c hc=>?_,q⟩
   ·exact F5 lx ly
   ·have le:s1.heap.objs.size<=c:=by
     simp only [Gn,HL,or_false] at hc
     rcases hc with rfl | rfl | rfl | rfl | rfl
     ·exact HW _ _
     ·exact HW _ _
     ·exact HW _ _
     ·exact Gj _
     ·exact HW _ _
    exact I1.oB le (I1.aL.fresh le)
theorem yV {K:Gh}{a b acc:Addr}{xs ys:List V}{n:Nat}{js:List Nat}{g:TG}{ct:TT}{te:TE}{Gf : St}{H1:Hp}{Q:VK}(Pv:Nat->List V->St->Hp->Prop)(h0:Pv 0 [] (nW n js Gf) (upd H1 acc (.lst [])))
  (hl:∀i zs Gg H,i<=min xs.length ys.length->Pv i zs Gg H->av K H a xs/\av K H b ys/\H acc=some (.lst zs)/\zs.length<sizeLine)
  (hs:∀i x y zs Gg H t,xs[i]?=some x->ys[i]?=some y->H t=none->Pv i zs Gg H->g (.ref t) Gg (upd H t (.tup [x,y])) fun τ1 H4=>ct τ1 H4 fun b H5=>if b=true then te τ1 H5 fun v H6=>H6 acc=some (.lst zs)/\Pv (i+1) (zs++[v]) τ1 (upd H6 acc (.lst (zs++[v]))) else Pv (i+1) zs τ1 H5)
  (hd:∀zs Gg H,Pv (min xs.length ys.length) zs Gg H->Q (.ref acc) H) :
  vY (BE K a b) n js g ct te acc Gf H1 Q:=by
 refine⟨fun i m zs Gg H=>m=min xs.length ys.length-i/\i<=min xs.length ys.length/\Pv i zs Gg H,⟨min xs.length ys.length,by simp,GI _,h0⟩,?_⟩
 rintro i m zs Gg H ⟨rfl,hi,p⟩
 obtain⟨qa,qb,q2,q3⟩:=hl i zs Gg H hi p
 refine⟨q2,q3,?_⟩
 by_cases hlt:i<min xs.length ys.length
 ·have l1:i<xs.length:=by omega
  have l2:i<ys.length:=by omega
  refine .inr ⟨⟨xs,ys,xs[i],ys[i],qa,qb,by simp [l1],by simp [l2]⟩,Pv (i+1),fun zs' τ' H' p'=>⟨min xs.length ys.length-(i+1),by omega,rfl,hlt,p'⟩,fun v H' y=>?_⟩
  obtain⟨t,x,y,rfl,ht,rfl,h⟩:=y
  obtain⟨h1,h2⟩:=h xs ys qa qb
  exact hs i x y zs Gg H t h1 h2 ht p
 ·have e:i=min xs.length ys.length:=by omega
  subst e
  refine .inl ⟨⟨xs,ys,qa,qb,?_⟩,hd zs Gg H p⟩
  rcases Nat.le_total xs.length ys.length with h | h
  ·exact .inl (by omega)
  ·exact .inr (by omega)
end
structure Ay (K:Gh) (mg:Str->Option Value) (nm:Str) (a:Addr) (D:List (Str×Addr)):Prop where
 sf:mg nm=some (.ref a)
 lk:∃es ep,K.lookup a=some ⟨.type "dict",none,.dict es ep,#[]⟩/\KTD.Rows (fun d v=>v=Value.ref d) es.toList D
section
variable {prog:Program}{w:World}{A:Around}{E:Value->Shared->Prop}{s:Shared}
theorem Az {a d:Addr}{o:Obj}{es:Array DictEntry}{ep:Nat}{k:Str}{t:Tok}{D:List (Str×Addr)}{Q:Option Value->Shared->Prop}(ho:s.heap.get? a=some o)(hd:o.data=.dict es ep)
  (hr:KTD.Rows (fun d v=>v=Value.ref d) es.toList D) (ha:KTD.datumAt k D=some d) (q:Q (some (.ref d)) { s with toks:=s.toks+1 }):wpAny (model prog w) A (dictGet a (.str k t)) Q E s:=by
 unfold dictGet
 try with_reducible refine IZ ?_
 refine IW (JB (IW (KTD.kt_dictFind_strs (s:={ s with toks:=s.toks+1 }) ho hd (by have:=hr.exact;obtain⟨l⟩:=es;simpa using this) ?_)))
 have hq:Q (findBy (fun k v=>v.isStr k) es k) { s with toks:=s.toks+1 }:=by
  obtain⟨v,hv,rfl⟩:=hr.find_some ha
  have e:findBy (fun k v=>v.isStr k) es k=some (.ref d):=by
   rw [<-hv]
   obtain⟨l⟩:=es
   simp [findBy]
  rw [e]
  exact q
 rw [findBy_of_findIdx?] at hq
 cases hi:es.findIdx? fun e=>e.key.isStr k with
 | some i=>rw [hi] at hq;exact IW (wpAny_dictEntries (s:={ s with toks:=s.toks+1 }) ho hd (IX hq))
 | none=>rw [hi] at hq;exact IX hq
theorem AA {a d:Addr} {o:Obj} {es:Array DictEntry} {ep:Nat} {k:Str} {t:Tok} {D:List (Str×Addr)} {Q:Value->Shared->Prop} (ty:s.TypeIs (.ref a) "dict") (ho:s.heap.get? a=some o) (hd:o.data=.dict es ep)
  (hr:KTD.Rows (fun d v=>v=Value.ref d) es.toList D) (ha:KTD.datumAt k D=some d) (q:Q (.ref d) { s with toks:=s.toks+1 }):wpAny (model prog w) A (getItem (.ref a) (.str k t)) Q E s:=by
 unfold getItem
 try with_reducible refine IZ ?_
 refine IW (JC ty (by decide) (IW (wpAny_callSpecial?_slot (name:=Str.ofString "__getitem__") ty slot_dict_getitem (Ja slot_dict_getitem ty entry_dict_getitem ?_ (args_dict_getitem _ _)))))
 show wpAny _ _ (dictGet a (.str k t) >>= fun _=>_) _ _ s
 exact IW (Az ho hd hr ha (IX ⟨_,rfl,IX q⟩))
end
section
variable {X:Cx}
theorem qV {nm:Str} {a:Addr} {D:List (Str×Addr)} {i:Expr} {p pos:Pos} {ty:TE} (G:Ay X.K X.mg nm a D) (hg:Gl X nm) (hi:PE X i ty) (hs:xt i) (hdb:(nm == ("__debug__" : Str))=false:=by decide) :
  PE X (.Subscript (.Name nm p) i pos) (fun Gf H Q=>ty Gf H fun y H1=>∃x d,y=.str x/\KTD.datumAt x D=some d/\Q (.ref d) H1):=by
 intro pins s Gf H Q I h
 obtain⟨es,ep,hk,hr⟩:=G.lk
 refine qS PySem.F.slot_dict_getitem.lookup hs (bB (cG (v:=.ref a) hg G.sf rfl hdb pins s Gf H (fun x H1=>x=.ref a/\ty Gf H1 fun y H1=>∃x d,y=.str x/\KTD.datumAt x D=some d/\Q (.ref d) H1) I ⟨rfl,h⟩) fun u s1 ⟨x,H1,I1,rx,ex,q1⟩=>?_)
 subst ex
 obtain rfl:u=Value.ref a:=rx
 refine bB (hi pins s1 Gf H1 _ I1 q1) fun iv s2 ⟨y,H2,I2,ry,k,d,ey,hd,q2⟩=>?_
 subst ey
 obtain⟨t,rfl⟩:=(show ∃t,iv=Value.str k t from ry)
 have ho:=I2.en a _ hk
 exact⟨⟨_,ho,rfl⟩,AA ⟨_,ho,rfl⟩ ho rfl hr hd ⟨.ref d,H2,I2.tok _,rfl,q2⟩⟩
end
def pick (w:Str)(xs:List V)(ks:List Str):List V:=((xs.zip ks).filter fun p=>decide (p.2=w)).map (·.1)
def jJ (w:Str)(xs:List V)(ks:List Str)(i:Nat):List V:=(((xs.zip ks).take i).filter fun p=>decide (p.2=w)).map (·.1)
theorem xx {w:Str}{xs:List V}{ks:List Str}{i:Nat}{x:V}{k:Str}(hx:xs[i]?=some x)(hk:ks[i]?=some k):jJ w xs ks (i+1)=jJ w xs ks i++(if k=w then [x] else []):=by
 have hz:(xs.zip ks)[i]?=some (x,k):=by rw [List.getElem?_zip_eq_some];exact⟨hx,hk⟩
 unfold jJ
 rw [GN,hz,Iv,GF]
 congr 1
 by_cases h:k=w
 ·rw [if_pos h];simp [h]
 ·rw [if_neg h];simp [h]
theorem yW {w:Str}{xs:List V}{ks:List Str}:jJ w xs ks (min xs.length (ks.map V.str).length)=pick w xs ks:=by
 unfold jJ pick
 rw [Gi,IQ (by rw [List.length_zip];exact Gj _)]
theorem yX {w:Str}{xs:List V}{ks:List Str}{i:Nat}:(jJ w xs ks i).length<=i:=by
 unfold jJ
 rw [Gi]
 exact Gr (Hy ..) (by rw [G9];exact Nat.min_le_left ..)
theorem av.same {K:Gh}{H H':Hp}{a:Addr}{xs:List V}(h:av K H a xs)(s:af H H'):av K H' a xs:=by
 rcases h with h | h
 ·rcases h with h | h
  ·exact .inl (.inl (s _ _ h))
  ·obtain⟨b,hb⟩:=h
   exact .inl (.inr ⟨b,s _ _ hb⟩)
 ·exact .inr h
inductive qW (K:Gh) (vs:List V) (H:Hp) (Q:VK) (_:XK):Prop
 | mk (t s:Addr) (v0:V) (xs:List V) (ks:List Str) (w:Str) (_:vs=[.ref t,.ref s,.str w]) (_:H t=some (.tup (v0::xs))) (_:av K H s (ks.map V.str)) (_:xs.length<=1000) (_:∀l H',H' l=some (.lst (pick w xs ks))->af H H'->Q (.ref l) H')
def KTup (K:Gh)(a:Addr)(ks:List Str):Prop:=∃(o:Obj) (its:Array Value) (n:Nat),K.lookup a=some o/\o.cls=.type "tuple" /\ o.data=.seq its n/\its.size<=sizeLine/\Vals (ks.map V.str) its.toList
structure ug (K:Gh) (mg:Str->Option Value) (aE s0 s1 s2 s3:Addr):Prop where
 tab:Ay K mg "END_PARTS" aE [("stop",s0),("go",s1),("less",s2),("is",s3)]
 q0:KTup K s0 []
 q1:KTup K s1 ["piece"]
 q2:KTup K s2 ["name", "number", "piece", "piece"]
 q3:KTup K s3 ["name", "number", "piece", "piece"]
def aV:End->List Nat
 | .stop=>[]
 | .go p=>[p]
 | .cF _ _ _ p q=>[p,q]
def kE:End->List Str
 | .stop=>[]
 | .go _=>["piece"]
 | .cF ..=>["name", "number", "piece", "piece"]
def wE:End->Str
 | .stop => "stop"
 | .go _ => "go"
 | .cF b ..=>wT b
theorem yY (e:End):∃xs,eJ e=.str (wE e)::xs/\xs.length<=1000/\pick "piece" xs (kE e)=(aV e).map fun k=>V.int (k:Nat):=by
 cases e with
 | stop=>exact⟨[],rfl,by decide,rfl⟩
 | go p=>exact⟨_,rfl,by show 1<=1000;decide,by simp [pick,kE,aV]⟩
 | cF b x n p q =>
  refine⟨_,rfl,by show 4<=1000;decide,?_⟩
  have h1:¬("name" : Str) = "piece" := by decide +kernel
  have h2:¬("number" : Str) = "piece" := by decide +kernel
  simp [pick,kE,aV,h1,h2]
theorem ug.at_ {K:Gh} {mg:Str->Option Value} {aE s0 s1 s2 s3:Addr} (G:ug K mg aE s0 s1 s2 s3) (e:End):∃s,KTD.datumAt (wE e) [(("stop" : Str),s0),("go",s1),("less",s2),("is",s3)]=some s/\KTup K s (kE e):=by
 have hit:∀{k:Str} {d:Addr} {D:List (Str×Addr)},KTD.datumAt k ((k,d)::D)=some d:=fun {k d D}=>by
  show (if decide (k=k)=true then some d else KTD.datumAt k D)=some d
  rw [if_pos (decide_eq_true rfl)]
 have miss:∀{k x:Str} {d:Addr} {D:List (Str×Addr)} {o:Option Addr},¬k=x->KTD.datumAt k D=o->KTD.datumAt k ((x,d)::D)=o:=fun {k x d D o} h e=>by
  show (if decide (k=x)=true then some d else KTD.datumAt k D)=o
  rw [if_neg (by rw [decide_eq_false h];decide)]
  exact e
 cases e with
 | stop=>exact⟨s0,hit,G.q0⟩
 | go p=>exact⟨s1,miss (show ¬(("go" : Str) = "stop") by decide +kernel) hit,G.q1⟩
 | cF b x n p q =>
  cases b with
  | true=>exact⟨s2,miss (show ¬(("less" : Str) = "stop") by decide +kernel) (miss (show ¬(("less" : Str) = "go") by decide +kernel) hit),G.q2⟩
  | false=>exact⟨s3,miss (show ¬(("is" : Str) = "stop") by decide +kernel) (miss (show ¬(("is" : Str) = "go") by decide +kernel) (miss (show ¬(("is" : Str) = "less") by decide +kernel) hit)),G.q3⟩
inductive kh  (vs:List V) (H:Hp) (Q:VK) (_:XK):Prop
 | mk (ea:Addr) (e:End) (_:vs=[.ref ea]) (_:H ea=some (.tup (eJ e))) (_:∀t H',H' t=some (.tup ((aV e).map fun k=>V.int (k:Nat)))->af H H'->Q (.ref t) H')
end L2
namespace LS
open PySem
def Up (xs:Array Nat):Prop:=∀(i j:Nat) (a b:Nat),i<j->xs[i]?=some a->xs[j]?=some b->a<b
theorem AB {xs:Array Nat}{j:Nat}(up:Up xs):∀(fuel lo hi:Nat),hi-lo<=fuel->lo<=hi->hi<=xs.size ->
  (∀i a,i<lo->xs[i]?=some a->a<j)->(∀i a,hi<=i->xs[i]?=some a->j<=a) ->
  (∀i a,i<SetTable.below.go xs j fuel lo hi->xs[i]?=some a->a<j)/\(∀i a,SetTable.below.go xs j fuel lo hi<=i->xs[i]?=some a->j<=a)/\SetTable.below.go xs j fuel lo hi<=xs.size:=by
 intro fuel
 induction fuel with
 | zero =>
  intro lo hi h1 h2 h3 h4 h5
  have e:lo=hi:=by omega
  subst e
  unfold SetTable.below.go
  exact⟨h4,h5,h3⟩
 | succ f ih =>
  intro lo hi h1 h2 h3 h4 h5
  unfold SetTable.below.go
  by_cases hl:lo<hi
  ·rw [if_pos hl]
   dsimp only
   have hm:(lo+hi) / 2<hi:=by omega
   have hm2:lo<=(lo+hi) / 2:=by omega
   generalize (lo+hi) / 2=mid at hm hm2
   have hs:mid<xs.size:=by omega
   have hg:xs[mid]?=some xs[mid]:=by simp [hs]
   have hd:xs.getD mid j=xs[mid]:=by simp [Array.getD,hs]
   rw [hd]
   by_cases hc:xs[mid]<j
   ·rw [if_pos hc]
    refine ih (mid+1) hi (by omega) (by omega) h3 (fun i a hi' he=>?_) h5
    by_cases e:i=mid
    ·subst e;rw [hg] at he;cases he;exact hc
    ·have:=up i mid a _ (by omega) he hg;omega
   ·rw [if_neg hc]
    refine ih lo mid (by omega) hm2 (by omega) h4 (fun i a hi' he=>?_)
    by_cases e:i=mid
    ·subst e;rw [hg] at he;cases he;omega
    ·have:=up mid i _ a (by omega) hg he;omega
  ·rw [if_neg hl]
   have e:lo=hi:=by omega
   subst e
   exact⟨h4,h5,h3⟩
theorem oO {xs:Array Nat}{j:Nat}(up:Up xs) :
    (∀i a,i<SetTable.below xs j->xs[i]?=some a->a<j)/\(∀i a,SetTable.below xs j<=i->xs[i]?=some a->j<=a)/\SetTable.below xs j<=xs.size :=
  AB up xs.size 0 xs.size (by omega) (GI _) (Gj _) (fun _ _ h=>absurd h (Nat.not_lt_zero _)) (fun i a h e=>by
    have:xs[i]?=none:=by simp;omega
    rw [this] at e;cases e)
theorem uh {α : Type}{xs:Array α}{p:Nat}{x:α}(hp:p<=xs.size)(i:Nat) :
  (SetTable.insertAt xs p x)[i]?=if i<p then xs[i]? else if i=p then some x else xs[i-1]?:=by
 unfold SetTable.insertAt
 have h1:(xs.extract 0 p).size=p:=by simp;omega
 rw [Array.getElem?_append]
 have h2:((xs.extract 0 p).push x).size=p+1:=by simp;omega
 rw [h2]
 by_cases a:i<p
 ·rw [if_pos (by omega),if_pos a,Array.getElem?_push,h1,if_neg (by omega)]
  rw [Array.getElem?_extract]
  simp;omega
 ·rw [if_neg a]
  by_cases b:i=p
  ·subst b
   rw [if_pos (by omega),if_pos rfl,Array.getElem?_push,h1,if_pos rfl]
  ·rw [if_neg (by omega),if_neg b]
   rw [Array.getElem?_extract]
   have:p+(i-(p+1))=i-1:=by omega
   rw [this]
   by_cases c:i-1<xs.size
   ·simp;omega
   ·have:xs[i-1]?=none:=by simp;omega
    rw [this];simp
theorem Up.insert {xs:Array Nat}{j:Nat}(up:Up xs)(hn:xs[SetTable.below xs j]?≠some j):Up (SetTable.insertAt xs (SetTable.below xs j) j):=by
 obtain⟨h1,h2,h3⟩:=oO (j:=j) up
 generalize SetTable.below xs j=p at h1 h2 h3 hn
 have h2':∀i a,p<=i->xs[i]?=some a->j<a:=fun i a hi e=>by
  have q:=h2 i a hi e
  by_cases z:i=p
  ·subst z
   rcases Nat.lt_or_ge j a with c | c
   ·exact c
   ·have:a=j:=by omega
    subst this;exact absurd e hn
  ·have hps:p<xs.size:=by
    have:i<xs.size:=by
     rcases Nat.lt_or_ge i xs.size with c | c
     ·exact c
     ·have:xs[i]?=none:=by simp;omega
      rw [this] at e;cases e
    omega
   have e1:xs[p]?=some xs[p]:=by simp [hps]
   have q1:=h2 p _ (Gj _) e1
   have q2:=up p i _ _ (by omega) e1 e
   omega
 intro a b x y hab ha hb
 rw [uh h3] at ha hb
 by_cases c1:a<p
 ·rw [if_pos c1] at ha
  by_cases d1:b<p
  ·rw [if_pos d1] at hb;exact up a b _ _ hab ha hb
  ·rw [if_neg d1] at hb
   by_cases d2:b=p
   ·rw [if_pos d2] at hb;cases hb;exact h1 a _ c1 ha
   ·rw [if_neg d2] at hb
    exact HV (h1 a _ c1 ha) (h2' (b-1) _ (by omega) hb)
 ·rw [if_neg c1] at ha
  by_cases c2:a=p
  ·rw [if_pos c2] at ha;cases ha
   rw [if_neg (by omega),if_neg (by omega)] at hb
   exact h2' (b-1) _ (by omega) hb
  ·rw [if_neg c2] at ha
   rw [if_neg (by omega),if_neg (by omega)] at hb
   exact up (a-1) (b-1) _ _ (by omega) ha hb
def Rp (t:SetTable):Prop:=t.plain=true->Up t.place
theorem AD {t:SetTable}{f:Nat->Int}{h:Int}:∀(fuel:Nat) (p:SetTable.Probe) (j:Nat) (d:Option Nat),(∀x,p.dummy=some x->t.place[SetTable.below t.place x]?≠some x) ->
  SetTable.probe.go t f h fuel p=some (.empty j d)->t.place[SetTable.below t.place (d.getD j)]?≠some (d.getD j):=by
 intro fuel
 induction fuel with
 | zero=>intro p j d _ e;unfold SetTable.probe.go at e;cases e
 | succ n ih =>
  intro p j d hd e
  unfold SetTable.probe.go at e
  have adv:∀q:SetTable.Probe,(t.advance q).dummy=q.dummy:=fun q=>by unfold SetTable.advance;split <;> rfl
  cases hs:t.slot p.j with
  | empty =>
   rw [hs] at e
   dsimp only at e
   injection e with e
   injection e with e1 e2
   subst e1;subst e2
   unfold SetTable.slot at hs
   dsimp only at hs
   split at hs
   ·cases hs
   ·rename_i hne
    cases hdm:p.dummy with
    | none=>intro z;exact hne (by rw [show (none:Option Nat).getD p.j=p.j from rfl] at z;simpa using z)
    | some x=>exact hd x hdm
  | dummy =>
   rw [hs] at e
   dsimp only at e
   refine ih _ j d (fun x hx=>?_) e
   rw [adv] at hx
   injection hx with hx
   subst hx
   unfold SetTable.slot at hs
   dsimp only at hs
   split at hs
   ·cases hs
   ·rename_i hne
    intro z;exact hne (by simpa using z)
  | live i =>
   rw [hs] at e
   dsimp only at e
   split at e
   ·cases e
   ·exact ih _ j d (fun x hx=>hd x (by rw [adv] at hx;exact hx)) e
theorem ui {t:SetTable}{h:Int}{j:Nat}{b:Bool}(e:t.freeSlot h=some (j,b)):t.place[SetTable.below t.place j]?≠some j:=by
 unfold SetTable.freeSlot at e
 split at e
 ·rename_i j' d hp
  injection e with e
  injection e with e1 e2
  subst e1
  unfold SetTable.probe at hp
  exact AD _ _ _ _ (fun x hx=>by cases hx) hp
 ·cases e
theorem Rp.standIn (t:SetTable)(n:Nat):Rp (t.standIn n):=fun h=>by cases h
theorem Rp.layNew {t:SetTable}(r:Rp t)(es:Array (Int×Value))(h:Int)(x:Value):Rp (layNew t es h x).2.1/\(layNew t es h x).2.1.led=t.led:=by
 unfold PySem.layNew
 split
 ·rename_i j b e
  dsimp only
  unfold SetTable.orStandIn
  split
  ·refine⟨fun hp=>?_,rfl⟩
   exact (r hp).insert (ui e)
  ·exact⟨Rp.standIn _ _,rfl⟩
 ·exact⟨Rp.standIn _ _,rfl⟩
theorem AE (n:Nat)(f:Nat->Option Nat):Up (((G4 n).filterMap fun j=>(f j).map fun k=>(j,k)).map (·.1)).toArray:=by
 have hs:Hx (· < ·) (((G4 n).filterMap fun j=>(f j).map fun k=>(j,k)).map (·.1)):=by
  have hl:List.Sublist (((G4 n).filterMap fun j=>(f j).map fun k=>(j,k)).map (·.1)) (G4 n):=by
   generalize G4 n=l
   induction l with
   | nil=>exact List.Sublist.refl _
   | cons a l ih =>
    rw [HF]
    cases e:f a with
    | none=>exact ih.cons a
    | some k=>exact ih.cons₂ a
  exact Hx.sublist hl List.pairwise_lt_range
 intro i j a b hij ha hb
 rw [List.getElem?_toArray] at ha hb
 have hi:i<_:=(GH.mp ha).1
 have hj:j<_:=(GH.mp hb).1
 have:=List.pairwise_iff_getElem.mp hs i j hi hj hij
 rw [(GH.mp ha).2,(GH.mp hb).2] at this
 exact this
theorem Rp.relayAll (t:SetTable)(es:Array (Int×Value))(n:Nat):Rp (relayAll t es n).2.1/\(relayAll t es n).2.1.led=t.led:=by
 unfold PySem.relayAll
 split
 ·rename_i t' order e
  dsimp only
  split
  ·unfold SetTable.relaid SetTable.laid at e
   simp only [bind,Option.bind] at e
   split at e
   ·cases e
   ·rename_i owner _
    injection e with e
    injection e with e1 _
    subst e1
    exact⟨fun _=>AE _ _,rfl⟩
  ·exact⟨Rp.standIn _ _,rfl⟩
 ·exact⟨Rp.standIn _ _,rfl⟩
theorem xy {xs:Array Nat}(up:Up xs){i a:Nat}(e:xs[i]?=some a):SetTable.below xs (a+1)=i+1:=by
 obtain⟨h1,h2,h3⟩:=oO (j:=a+1) up
 have hi:i<xs.size:=(Array.getElem?_eq_some_iff.mp e).1
 rcases Nat.lt_trichotomy (SetTable.below xs (a+1)) (i+1) with c | c | c
 ·have:=h2 i a (by omega) e;omega
 ·exact c
 ·have hs:i+1<xs.size:=by omega
  have e':xs[i+1]?=some xs[i+1]:=by simp [hs]
  have q1:=h1 (i+1) _ c e'
  have q2:=up i (i+1) _ _ (by omega) e e'
  omega
theorem xA {xs:Array Nat}(up:Up xs):SetTable.below xs 0=0:=by
 obtain⟨h1,h2,h3⟩:=oO (j:=0) up
 rcases Nat.eq_zero_or_pos (SetTable.below xs 0) with c | c
 ·exact c
 ·have e':xs[0]?=some xs[0]:=by simp
  have:=h1 0 _ c e';omega
theorem Up.cX {xs:Array Nat}(h:xs.size<=1):Up xs:=fun i j a b hij ha hb=>by
 have:=(Array.getElem?_eq_some_iff.mp hb).1;omega
open PySem.Spec PyProof.Rows
section
variable {prog:Program}{w:World}{K:Type}[DecidableEq K]{knd:KeyKind prog w K}
variable {A:Around}{E:Value->Shared->Prop}{s:Shared}
def Ent (knd:KeyKind prog w K)(e:Int×Value)(k:K):Prop:=knd.is k e.2=true/\e.1=knd.hash k/\e.2.scannable=true
structure dI (knd:KeyKind prog w K) (h:Heap) (a:Addr) (ks:List K) (o:Obj) (es:Array (Int×Value)) (ep:Nat) (t:SetTable):Prop where
 at_:h.get? a=some o
 ex:o.ExactSet
 data:o.data=.set es ep t
 ents:∃ls:List K,ls.Perm ks/\Paired (Ent knd) es.toList ls
 nd:ks.Nodup
 cX:es.size<scanBound
 fits:t.fits es.size=true
 led:t.led = !(w.params.followText "set-order")
 up:Rp t
def eM (knd:KeyKind prog w K)(h:Heap)(a:Addr)(ks:List K):Prop:=∃o es ep t,dI knd h a ks o es ep t
theorem jT {α β : Type}{F:α->β->Prop}:∀{l l':List α},l.Perm l'->∀{m':List β},Paired F l' m'->∃m,m.Perm m'/\Paired F l m:=by
 intro l l' p
 induction p with
 | nil=>intro m' h;exact⟨m',.refl _,h⟩
 | cons x p ih =>
  intro m' h
  cases h with
  | cons r t=>obtain⟨m,q,e⟩:=ih t;exact⟨_,q.cons _,.cons r e⟩
 | swap x y l =>
  intro m' h
  cases h with
  | cons r t=>cases t with
   | cons r' t'=>exact⟨_,.swap _ _ _,.cons r' (.cons r t')⟩
 | trans p q ih1 ih2 =>
  intro m' h
  obtain⟨m1,a1,b1⟩:=ih2 h
  obtain⟨m2,a2,b2⟩:=ih1 b1
  exact⟨m2,a2.trans a1,b2⟩
theorem i8 {α β : Type}{F:α->β->Prop}:∀{l:List α} {m:List β},Paired F l m->(∀x∈l,∃y∈m,F x y)/\(∀y∈m,∃x∈l,F x y)
 | _,_,.nil=>⟨(fun _ h=>nomatch h),(fun _ h=>nomatch h)⟩
 | _,_,.cons r t=>by
  obtain⟨h1,h2⟩:=i8 t
  refine⟨fun x hx=>?_,fun y hy=>?_⟩
  ·rcases Gn.mp hx with rfl | hx
   ·exact⟨_,Gx ..,r⟩
   ·obtain⟨y,hy,f⟩:=h1 x hx;exact⟨y,Gv _ hy,f⟩
  ·rcases Gn.mp hy with rfl | hy
   ·exact⟨_,Gx ..,r⟩
   ·obtain⟨x,hx,f⟩:=h2 y hy;exact⟨x,Gv _ hx,f⟩
theorem n9 {α β : Type}{F:α->β->Prop}{x:α}{y:β}(f:F x y):∀{l:List α} {m:List β},Paired F l m->Paired F (l++[x]) (m++[y])
 | _,_,.nil=>.cons f .nil
 | _,_,.cons r t=>.cons r (n9 f t)
variable {a:Addr}{ks:List K}{o:Obj}{es:Array (Int×Value)}{ep:Nat}{t:SetTable}{h h':Heap}
theorem dI.elems (S:dI knd h a ks o es ep t):ElemsOf knd es.toList:=fun e he=>by
 obtain⟨ls,_,p⟩:=S.ents
 obtain⟨k,_,f⟩:=(i8 p).1 e he
 exact⟨⟨k,f.1,f.2.1⟩,f.2.2⟩
theorem dI.len (S:dI knd h a ks o es ep t):es.size=ks.length:=by
 obtain⟨ls,q,p⟩:=S.ents
 rw [<-G7,p.length,q.length_eq]
theorem dI.mem (S:dI knd h a ks o es ep t)(k:K):k∈ks↔∃e∈es.toList,knd.is k e.2=true:=by
 obtain⟨ls,q,p⟩:=S.ents
 rw [<-q.mem_iff]
 constructor
 ·intro hk
  obtain⟨e,he,f⟩:=(i8 p).2 k hk
  exact⟨e,he,f.1⟩
 ·rintro⟨e,he,f⟩
  obtain⟨k',hk',f'⟩:=(i8 p).1 e he
  rw [knd.inj e.2 k k' f f'.1];exact hk'
theorem dI.setOf (S:dI knd h a ks o es ep t):h.SetOf knd a (fun k=>decide (k∈ks)) ks.length :=
 ⟨o,es,ep,t,S.at_,S.ex,S.data,S.elems,fun k=>by rw [decide_eq_true_eq];exact S.mem k,S.cX,S.fits,S.len⟩
theorem dI.keep (S:dI knd h a ks o es ep t)(k:∀o,h.get? a=some o->h'.get? a=some o):dI knd h' a ks o es ep t:={ S with at_:=k _ S.at_ }
theorem eM.keep (S:eM knd h a ks)(k:∀o,h.get? a=some o->h'.get? a=some o):eM knd h' a ks:=let ⟨o,es,ep,t,S⟩:=S;⟨o,es,ep,t,S.keep k⟩
theorem eM.setOf (S:eM knd h a ks):h.SetOf knd a (fun k=>decide (k∈ks)) ks.length:=let ⟨_,_,_,_,S⟩:=S;S.setOf
theorem uj {o:Obj}{es es':Array (Int×Value)}{ep:Nat}{t t':SetTable}(hd:o.data=.set es ep t):Obj.putSet es' t' o={ o with data:=.set es' (ep+1) t' }:=putSet_of es' t' hd
theorem dI.store {es':Array (Int×Value)}{t':SetTable}{ks':List K}(S:dI knd h a ks o es ep t)(he:∃ls:List K,ls.Perm ks'/\Paired (Ent knd) es'.toList ls)(nd:ks'.Nodup)(cX:es'.size<scanBound)
  (fits:t'.fits es'.size=true) (led:t'.led=t.led) (up:Rp t'):dI knd (h.update a (Obj.putSet es' t')) a ks' { o with data:=.set es' (ep+1) t' } es' (ep+1) t' where
 at_:=by
  have q:=Hq (Obj.putSet es' t') S.at_ (by rw [uj S.data];rfl)
  rw [uj S.data] at q
  exact q
 ex:=S.ex
 data:=rfl
 ents:=he
 nd:=nd
 cX:=cX
 fits:=fits
 led:=led.trans S.led
 up:=up
theorem oP {g:Bool->Sem Unit}(hg:∀(b:Bool) (s₁ : Shared) (Q':Unit->Shared->Prop),Q' () s₁->wpAny (model prog w) A (g b) Q' E s₁){es1:Array (Int×Value)}{t2:SetTable}{ks':List K}
  (S:dI knd s.heap a ks o es ep t) (he:∃ls:List K,ls.Perm ks'/\Paired (Ent knd) es1.toList ls) (nd:ks'.Nodup) (cX:es1.size<scanBound) (fits:t2.fits es1.size=true) (led:t2.led=t.led) (up:Rp t2) {wd:Bool}
  {R:Option Bool->Shared->Prop} (q:∀h',GW a s.heap h'->eM knd h' a ks'->R (some true) { s with heap:=h' }) :
  wpAny (model prog w) A (storeSet a es1 t2 >>= fun _=>if (!wd&&t2.tooFull)=true then g (relayAll t2 es1 (SetTable.grown es1.size)).2.2 >>= fun _ =>
   storeSet a (relayAll t2 es1 (SetTable.grown es1.size)).1 (relayAll t2 es1 (SetTable.grown es1.size)).2.1 >>= fun _=>pure (some true) else pure (some true)) R E s:=by
 refine IW (wpAny_storeSet_of S.at_ S.data ?_ (fits_of_scanBound cX))
 have S1:=S.store he nd cX fits led up
 have b1:=GW.update s.heap a (Obj.putSet es1 t2)
 by_cases hc:(!wd&&t2.tooFull)=true
 ·rw [if_pos hc]
  have p1:=relayAll_perm t2 es1 (SetTable.grown es1.size)
  have p2:=relayAll_fits t2 es1 (SetTable.grown es1.size)
  have p3:=Rp.relayAll t2 es1 (SetTable.grown es1.size)
  generalize relayAll t2 es1 (SetTable.grown es1.size)=R3 at p1 p2 p3
  obtain⟨es3,t3,gv⟩:=R3
  obtain⟨ls,l1,l2⟩:=he
  obtain⟨ls3,l3,l4⟩:=jT p1 l2
  have z:es3.size=es1.size:=by rw [<-G7,p1.length_eq,G7]
  have few3:es3.size<scanBound:=by rw [z];exact cX
  refine IW (hg _ _ _ ?_)
  refine IW (wpAny_storeSet_of S1.at_ S1.data ?_ (fits_of_scanBound few3))
  exact IX (q _ (b1.trans (GW.update _ a _)) ⟨_,_,_,_,S1.store ⟨ls3,l3.trans l1,l4⟩ nd few3 p2 p3.2 p3.1⟩)
 ·rw [if_neg hc]
  exact IX (q _ b1 ⟨_,_,_,_,S1⟩)
theorem xB {k:K}{x:Value}{Q:Bool->Shared->Prop}(hk:knd.is k x=true)(hsc:x.scannable=true)(S:eM knd s.heap a ks)(room:ks.length+1<scanBound)
  (q:∀h',GW a s.heap h'->eM knd h' a (if k∈ks then ks else ks++[k])->Q (!decide (k∈ks)) { s with heap:=h' }) :
  wpAny (model prog w) A (setAddHashed a x (knd.hash k)) Q E s:=by
 obtain⟨o,es,ep,t,S⟩:=S
 have few1:es.size+1<scanBound:=by rw [S.len];exact room
 unfold setAddHashed setAddHashedIn
 refine IZ (IW (Jp S.at_ S.data S.fits ?_))
 dsimp only
 rw [byScan_of hsc S.cX S.elems]
 simp only [↓reduceIte]
 unfold setAddByScan
 refine IW (IW (Jg ?_))
 refine IW (wpAny_setScan_of hk S.at_ S.data S.fits S.elems ?_)
 cases hr:List.findIdx? (fun e=>knd.is k e.2) es.toList with
 | some j =>
  obtain⟨hj,hpj,_⟩:=List.findIdx?_eq_some_iff_getElem.mp hr
  have hin:k∈ks:=(S.mem k).mpr ⟨es.toList[j],List.getElem_mem hj,hpj⟩
  refine IX (IX ?_)
  have:=q s.heap (GW.refl a s.heap) (by rw [if_pos hin];exact⟨o,es,ep,t,S⟩)
  rw [decide_eq_true hin] at this
  exact this
 | none =>
  have hin:¬k∈ks:=fun z=>by
   obtain⟨e,he,hp⟩:=(S.mem k).mp z
   have:=List.findIdx?_eq_none_iff.mp hr e he
   rw [hp] at this;exact Bool.noConfusion this
  rw [if_neg hin,decide_eq_false hin] at q
  have p1:=layNew_perm t es (knd.hash k) x
  have p2:=layNew_fits t es (knd.hash k) x
  have p3:=S.up.layNew es (knd.hash k) x
  dsimp only
  generalize layNew t es (knd.hash k) x=L at p1 p2 p3 ⊢
  obtain⟨es1,t1,wd,gv⟩:=L
  dsimp only at p1 p2 p3 ⊢
  rw [Array.toList_push] at p1
  have hE:∃ls:List K,ls.Perm (ks++[k])/\Paired (Ent knd) es1.toList ls:=by
   obtain⟨ls,l1,l2⟩:=S.ents
   obtain⟨m,m1,m2⟩:=jT p1 (n9 (F:=Ent knd) (x:=(knd.hash k,x)) (y:=k) ⟨hk,rfl,hsc⟩ l2)
   exact⟨m,m1.trans (l1.append_right _),m2⟩
  have nd1:(ks++[k]).Nodup:=by
   rw [Hz]
   exact⟨S.nd,by simp,fun y hy z hz e=>hin (by rw [Gk] at hz;rw [<-hz,<-e];exact hy)⟩
  have few2:es1.size<scanBound:=by rw [<-G7,p1.length_eq,Gq,G7];simpa using few1
  have gw:∀(b:Bool) (s₁ : Shared) (Q':Unit->Shared->Prop),Q' () s₁->wpAny (model prog w) A (match b with | true=>rule "set.scan.the-table-gave-way" | false=>pure ()) Q' E s₁:=fun b s₁ Q' hq=>by
   cases b
   ·exact IX hq
   ·exact Jg hq
  refine IW (gw _ _ _ ?_)
  by_cases hp:t1.plain=true
  ·rw [if_pos hp]
   refine IW ?_
   rw [hashByValue_scannable 8 hsc]
   refine IX ?_
   by_cases hv:plainKind x=true
   ·rw [if_pos hv]
    exact oP gw S hE nd1 few2 p2 p3.2 p3.1 fun h' b Sk=>IX (q h' b Sk)
   ·rw [if_neg hv]
    exact oP gw S hE nd1 few2 (SetTable.fits_plain_off p2) p3.2 (fun z=>by cases z) fun h' b Sk=>IX (q h' b Sk)
  ·rw [if_neg hp]
   refine IW (IX ?_)
   rw [if_pos rfl]
   exact oP gw S hE nd1 few2 p2 p3.2 p3.1 fun h' b Sk=>IX (q h' b Sk)
theorem mj {led:Bool} (hl:led = !(w.params.followText "set-order")) (at_:h.get? a=some { cls:=.type "set",dict:=none,data:=.set #[] 0 (.fresh 0 0 led) }):eM knd h a [] :=
 ⟨_,#[],0,_,at_,⟨rfl,rfl,rfl⟩,rfl,⟨[],.refl _,.nil⟩,Hi,by decide,by rfl,hl,fun _=>Up.cX (GI _)⟩
end
theorem kG {α : Type}:∀(l:List α) (i:Nat) (h:i<l.length),(l[i]::l.eraseIdx i).Perm l
 | x::l,0,_=>.refl _
 | x::l,i+1,h=>by
  have hi:i<l.length:=by simpa using h
  have ih:=kG l i hi
  show (l[i]::x::l.eraseIdx i).Perm (x::l)
  exact (List.Perm.swap x _ _).trans (ih.cons x)
theorem yZ {α : Type}(f:Nat->Nat):∀(n k:Nat) (l:List α) (out:Array α),l.length=n->(pickOrder.go f n k l out).toList.Perm (out.toList++l):=by
 intro n
 induction n with
 | zero =>
  intro k l out hl
  have:l=[]:=List.length_eq_zero_iff.mp hl
  subst this
  unfold pickOrder.go
  simp
 | succ n ih =>
  intro k l out hl
  unfold pickOrder.go
  have hlt:f k % l.length<l.length:=Nat.mod_lt _ (by omega)
  rw [IS hlt]
  dsimp only
  refine (ih _ _ _ (by rw [List.length_eraseIdx_of_lt hlt];omega)).trans ?_
  rw [Array.toList_push,GY]
  refine List.Perm.append_left _ ?_
  exact kG _ _ hlt
theorem ir {α : Type}(f:Nat->Nat)(xs:Array α):(pickOrder f xs).toList.Perm xs.toList:=by
 unfold pickOrder
 have:=yZ f xs.size 0 xs.toList #[] (by simp)
 simpa using this
section
variable {prog:Program}{w:World}{A:Around}{E:Value->Shared->Prop}{s:Shared}
theorem nq {Q:Bool->Shared->Prop} (q:Q (w.params.followText "set-order") s):wpAny (model prog w) A setsByText Q E s:=by
 unfold setsByText
 exact IW (Jy (IX q))
theorem Cq {src:Source}{n:Nat}{Q:Nat->Shared->Prop}(hn:n≠0)(q:∀(i:Nat) (d:_),i<n->Q i { s with drawn:=d }):wpAny (model prog w) A (choose src n) Q E s:=by
 intro Γ p hΓ
 show Sem.wp _ _ (.choose src n .pure) _ _ _ _
 rw [Sem.wp_choose]
 exact⟨hn,q _ _ (Nat.mod_lt _ (Nat.pos_of_ne_zero hn))⟩
theorem EH:∀(n:Nat) (xs:List Nat) (s:Shared) {Q:List Nat->Shared->Prop},xs.length=n->(∀(ys:List Nat) (d:_),ys.Perm xs->Q ys { s with drawn:=d })->wpAny (model prog w) A (drawOrder n xs) Q E s:=by
 intro n
 induction n with
 | zero =>
  intro xs s Q hl q
  have:xs=[]:=List.length_eq_zero_iff.mp hl
  subst this
  unfold drawOrder
  exact IX (q [] s.drawn (.refl _))
 | succ n ih =>
  intro xs s Q hl q
  cases xs with
  | nil=>cases hl
  | cons x0 xs =>
   unfold drawOrder
   refine IW (Cq (by simp) fun i d hi=>?_)
   rw [IS hi]
   dsimp only
   refine IW (ih _ _ (by rw [List.length_eraseIdx_of_lt hi];omega) fun ys d' hp=>?_)
   refine IX (q _ d' ?_)
   exact (hp.cons _).trans (kG _ _ hi)
end
section
variable {prog:Program}{w:World}{K:Type}[DecidableEq K]{knd:KeyKind prog w K}
variable {A:Around}{E:Value->Shared->Prop}{s:Shared}{a:Addr}{ks:List K}{o:Obj}{es:Array (Int×Value)}{ep:Nat}{t:SetTable}
theorem y3 {slot i:Nat} {Q:Option (Value×Nat)->Shared->Prop} (S:dI knd s.heap a ks o es ep t) (hb:w.params.followText "set-order" = true)
  (q:Q (((pickOrder (w.params.setOrder a ep) es)[i]?).map fun e=>(e.2,slot)) s):wpAny (model prog w) A (setNext a slot i ep) Q E s:=by
 unfold setNext
 refine IW (Jp S.at_ S.data S.fits ?_)
 dsimp only
 refine IW (nq ?_)
 rw [hb,if_pos rfl]
 rw [if_neg (by simp)]
 unfold setWalk
 refine IW (IW (Jp S.at_ S.data S.fits ?_))
 dsimp only
 refine IW (nq ?_)
 rw [hb,if_pos rfl]
 exact IW (Jy (IX (IX q)))
theorem y4 {slot i:Nat} {Q:Option (Value×Nat)->Shared->Prop} (S:dI knd s.heap a ks o es ep t) (hb:w.params.followText "set-order" = false) (hd:t.plain=true\/es.size<=1) (hs:SetTable.below t.place slot=i)
  (q:Q (match es[i]?,t.place[i]? with | some (_,x),some j=>some (x,j+1) | _,_=>none) s):wpAny (model prog w) A (setNext a slot i ep) Q E s:=by
 unfold setNext
 refine IW (Jp S.at_ S.data S.fits ?_)
 dsimp only
 refine IW (nq ?_)
 rw [hb,if_neg GJ]
 refine Jz (fun h=>absurd (show (!t.plain&&decide (es.size > 1))=true from h) ?_) (fun _=>?_)
 ·rcases hd with h | h
  ·rw [h];simp
  ·rw [show decide (es.size > 1)=false by simp;omega];simp
 have hl:t.led=true:=by rw [S.led,hb];rfl
 refine IW ?_
 show wpAny _ _ (if (!t.led&&!es.isEmpty)=true then unsupported "set:maker-not-led" else pure ()) _ _ s
 rw [hl,if_neg (by simp)]
 refine IX ?_
 rw [hs]
 exact IX q
theorem DS {i:Nat}{e:Int×Value}{Q:Value->Shared->Prop}(S:dI knd s.heap a ks o es ep t)(he:es[i]?=some e)(q:Q e.2 s):wpAny (model prog w) A (setNextDrawn a i ep) Q E s:=by
 unfold setNextDrawn
 refine IW (Jp S.at_ S.data S.fits ?_)
 dsimp only
 rw [if_neg (by simp)]
 rw [he]
 exact IX q
theorem slot_next:Slot "set_iterator" "__next__" "set_iterator.__next__" :=
  Slot.of (owner := "set_iterator") (n := "__next__")
    (by rw [typeLookup_type,builtinLookup_eq_fast]
        kernel_rfl)
    (by decide +kernel)
    (by decide +kernel)
    (by decide +kernel)
    (by first
      | exact .inl (by decide +kernel)
      | exact .inr (by decide +kernel))
    (by rw [isSubtype_type]
        kernel_rfl)
theorem entry_next:entryFor table "set_iterator.__next__" = some Builtin.«set_iterator.__next__» :=
 entryFor_of_tree (by kernel_rfl)
theorem sg:Manifest.owners.lookup (String.ofList ['r','o','t','a','r','e','t','i','_','t','e','s'].reverse)=some Manifest.sig_set_iterator:=by
 kernel_rfl
theorem args_next (v:Value):argsOk "set_iterator.__next__" ⟨[v],[]⟩:=by
 unfold argsOk
 rw [signature?_of (id := "set_iterator.__next__") (n:=['_','_','t','x','e','n','_','_']) (o:=['r','o','t','a','r','e','t','i','_','t','e','s'])
  (by kernel_rfl) sg]
 kernel_rfl
end
def fj (h:Heap)(I:Addr)(first:Value)(i:Nat)(a:Addr)(n ep:Nat):Prop :=
 ∃oI,h.get? I=some oI/\oI.cls=.type "set_iterator" /\ oI.data=.fields #[first,.int i 0,.ref a,.int n 0,.int ep 0]
theorem fj.type {s:Shared} {I:Addr} {first:Value} {i:Nat} {a:Addr} {n ep:Nat} (h:fj s.heap I first i a n ep):s.TypeIs (.ref I) "set_iterator" := let ⟨o,e,c,_⟩:=h;⟨o,e,c⟩
theorem fj.keep {h h':Heap}{I:Addr}{first:Value}{i:Nat}{a:Addr}{n ep:Nat}(x:fj h I first i a n ep)(k:∀o,h.get? I=some o->h'.get? I=some o):fj h' I first i a n ep :=
 let ⟨o,e,c⟩:=x;⟨o,k _ e,c⟩
section
variable {prog:Program}{w:World}{K:Type}[DecidableEq K]{knd:KeyKind prog w K}
variable {A:Around}{E:Value->Shared->Prop}{s:Shared}{a I:Addr}{ks:List K}{o:Obj}{es:Array (Int×Value)}{ep:Nat}{t:SetTable}
theorem uk {slot nx i:Nat}{x:Value}{Q:Option Value->Shared->Prop}(hit:fj s.heap I (.int slot 0) i a es.size ep)(S:dI knd s.heap a ks o es ep t)
  (hn:∀(A:Around) (E:Value->Shared->Prop) (Q:Option (Value×Nat)->Shared->Prop),Q (some (x,nx)) s->wpAny (model prog w) A (setNext a slot i ep) Q E s)
  (q:∀h',fj h' I (.int nx 0) (i+1) a es.size ep->GW I s.heap h'->Q (some x) { s with heap:=h' }):wpAny (model prog w) A (pyNext (.ref I)) Q E s:=by
 obtain⟨oI,ho,hc,hd⟩:=id hit
 unfold pyNext
 refine IW (Jj (wpAny_callSpecial?_slot (name:=Str.ofString "__next__") hit.type slot_next (Ja slot_next hit.type entry_next ?_ (args_next _))))
 unfold Builtin.«set_iterator.__next__»
 refine IW (IX ?_)
 refine IW (JA ho hd ?_)
 dsimp only
 refine IW (Js S.at_ S.data S.fits ?_)
 rw [if_neg (by simp)]
 simp only [Hw]
 refine IW (hn _ _ _ ?_)
 dsimp only
 refine IW (Ji ho hd (by simp) ?_)
 have d1:(Obj.mapFields (·.setIfInBounds 0 (rawInt (nx:Int))) oI).data=.fields #[.int nx 0,.int i 0,.ref a,.int es.size 0,.int ep 0]:=by rw [Obj.data_mapFields hd];simp [rawInt]
 have g1:=Hq (Obj.mapFields (·.setIfInBounds 0 (rawInt (nx:Int)))) ho (Obj.isFreed_of_fields (Obj.data_mapFields hd _))
 refine IW (Ji g1 d1 (by simp) ?_)
 refine IX ⟨_,rfl,IX (q _ ⟨_,Hq _ g1 (Obj.isFreed_of_fields (Obj.data_mapFields d1 _)),?_,?_⟩ ((GW.update ..).trans (GW.update ..)))⟩
 ·exact (Obj.cls_mapFields ..).trans ((Obj.cls_mapFields ..).trans hc)
 ·rw [Obj.data_mapFields d1];simp [rawInt]
theorem oa {Q:Option Value->Shared->Prop}{s0:Shared}(hh:A.handled=none)(hk:∀b o,b≠I->s0.heap.get? b=some o->s.heap.get? b=some o)
  (q:∀h',(∀b o,b≠I->s0.heap.get? b=some o->h'.get? b=some o)->Q none { s with heap:=h' }) :
  wpAny (model prog w) A.in1 (newExc (.type "StopIteration") [] >>= fun e=>(raiseNew e:Sem Fin)) (fun _ _=>False)
   (fun e s'=>wpAny (model prog w) A (isInstance e (.type "StopIteration") >>= fun b=>if b=true then pure none else throw e) Q E s') s:=by
 refine IW ?_
 simp only [newExc,newTuple]
 refine IW (Jc ?_ (by size_fits))
 refine IW (m:=firstArgMember _ _) (wpAny_of_eq (a:=Value.none) (by first | rfl | (simp only [firstArgMember];rfl)) ?_)
 refine Jc ?_ (by size_fits)
 simp only [raiseNew]
 refine IW (wpAny_handled ?_)
 rw [show A.in1.handled=none from hh]
 refine IW (IX (wpAny_throw ?_))
 refine IW (Jr (T := "StopIteration") (b:=true) ⟨_,Gu _ rfl,rfl⟩ isSubtype_stop ?_)
 exact IX (q _ fun b o hb e=>Gp _ (Gp _ (hk b o hb e)))
theorem wo {slot i:Nat}{Q:Option Value->Shared->Prop}(hh:A.handled=none)(hit:fj s.heap I (.int slot 0) i a es.size ep)(S:dI knd s.heap a ks o es ep t)
  (hn:∀(A:Around) (E:Value->Shared->Prop) (Q:Option (Value×Nat)->Shared->Prop),Q none s->wpAny (model prog w) A (setNext a slot i ep) Q E s)
  (q:∀h',(∀b o,b≠I->s.heap.get? b=some o->h'.get? b=some o)->Q none { s with heap:=h' }):wpAny (model prog w) A (pyNext (.ref I)) Q E s:=by
 obtain⟨oI,ho,hc,hd⟩:=id hit
 unfold pyNext
 refine IW (Jj (wpAny_callSpecial?_slot (name:=Str.ofString "__next__") hit.type slot_next (Ja slot_next hit.type entry_next ?_ (args_next _))))
 unfold Builtin.«set_iterator.__next__»
 refine IW (IX ?_)
 refine IW (JA ho hd ?_)
 dsimp only
 refine IW (Js S.at_ S.data S.fits ?_)
 rw [if_neg (by simp)]
 simp only [Hw]
 refine IW (hn _ _ _ ?_)
 dsimp only
 refine IW (Ji ho hd (by simp) ?_)
 refine IY (oa (I:=I) (s0:=s) (E:=E) (Q:=Q) hh (fun b o hb e=>(Hg _ _ (Ne.symm hb)).trans e) fun h' k=>q h' k) (fun _ _ z=>z.elim) fun e s' z=>z
theorem AF {T:Addr}{i k:Nat}{oT:Obj}{its:Array Value}{c:Nat}{x:Int×Value}{Q:Option Value->Shared->Prop}(hit:fj s.heap I (.ref T) i a es.size ep)(S:dI knd s.heap a ks o es ep t)
  (hT:s.heap.get? T=some oT) (dT:oT.data=.seq its c) (hk:its[i]?=some (.int k 0)) (hx:es[k]?=some x)
  (q:∀h',fj h' I (.ref T) (i+1) a es.size ep->GW I s.heap h'->Q (some x.2) { s with heap:=h' }):wpAny (model prog w) A (pyNext (.ref I)) Q E s:=by
 obtain⟨oI,ho,hc,hd⟩:=id hit
 unfold pyNext
 refine IW (Jj (wpAny_callSpecial?_slot (name:=Str.ofString "__next__") hit.type slot_next (Ja slot_next hit.type entry_next ?_ (args_next _))))
 unfold Builtin.«set_iterator.__next__»
 refine IW (IX ?_)
 refine IW (JA ho hd ?_)
 dsimp only
 refine IW (Js S.at_ S.data S.fits ?_)
 rw [if_neg (by simp)]
 refine IW (Jf hT dT ?_)
 dsimp only
 simp only [Hw]
 rw [hk]
 dsimp only
 simp only [Hw]
 refine IW (DS S hx ?_)
 refine IW (Ji ho hd (by simp) ?_)
 refine IX ⟨_,rfl,IX (q _ ⟨_,Hq _ ho (Obj.isFreed_of_fields (Obj.data_mapFields hd _)),?_,?_⟩ (GW.update ..))⟩
 ·exact (Obj.cls_mapFields ..).trans hc
 ·rw [Obj.data_mapFields hd];simp [rawInt]
theorem Cr {T:Addr}{i:Nat}{oT:Obj}{its:Array Value}{c:Nat}{Q:Option Value->Shared->Prop}(hh:A.handled=none)(hit:fj s.heap I (.ref T) i a es.size ep)(S:dI knd s.heap a ks o es ep t)
  (hT:s.heap.get? T=some oT) (dT:oT.data=.seq its c) (hk:its[i]?=none)
  (q:∀h',(∀b o,b≠I->s.heap.get? b=some o->h'.get? b=some o)->Q none { s with heap:=h' }):wpAny (model prog w) A (pyNext (.ref I)) Q E s:=by
 obtain⟨oI,ho,hc,hd⟩:=id hit
 unfold pyNext
 refine IW (Jj (wpAny_callSpecial?_slot (name:=Str.ofString "__next__") hit.type slot_next (Ja slot_next hit.type entry_next ?_ (args_next _))))
 unfold Builtin.«set_iterator.__next__»
 refine IW (IX ?_)
 refine IW (JA ho hd ?_)
 dsimp only
 refine IW (Js S.at_ S.data S.fits ?_)
 rw [if_neg (by simp)]
 refine IW (Jf hT dT ?_)
 dsimp only
 simp only [Hw]
 rw [hk]
 dsimp only
 refine IW (Ji ho hd (by simp) ?_)
 have d1:(Obj.mapFields (·.setIfInBounds 0 (rawInt 0)) oI).data=.fields #[.int 0 0,.int i 0,.ref a,.int es.size 0,.int ep 0]:=by rw [Obj.data_mapFields hd];simp [rawInt]
 have g1:=Hq (Obj.mapFields (·.setIfInBounds 0 (rawInt 0))) ho (Obj.isFreed_of_fields (Obj.data_mapFields hd _))
 refine IW (Ji g1 d1 (by simp) ?_)
 refine IY (oa (I:=I) (s0:=s) (E:=E) (Q:=Q) hh (fun b o hb e=>(Hg _ _ (Ne.symm hb)).trans ((Hg _ _ (Ne.symm hb)).trans e)) fun h' k=>q h' k) (fun _ _ z=>z.elim) fun e s' z=>z
theorem pV:Slot "set_iterator" "__iter__" "set_iterator.__iter__" :=
  Slot.of (owner := "set_iterator") (n := "__iter__")
    (by rw [typeLookup_type,builtinLookup_eq_fast]
        kernel_rfl)
    (by decide +kernel)
    (by decide +kernel)
    (by decide +kernel)
    (by first
      | exact .inl (by decide +kernel)
      | exact .inr (by decide +kernel))
    (by rw [isSubtype_type]
        kernel_rfl)
theorem vg:entryFor table "set_iterator.__iter__" = some Builtin.«dict_keyiterator.__iter__» :=
 entryFor_alias (id' := "dict_keyiterator.__iter__")
  (by kernel_rfl) rfl
  (by decide +kernel)
  (by kernel_rfl)
theorem xC (v:Value):argsOk "set_iterator.__iter__" ⟨[v],[]⟩:=by
 unfold argsOk
 rw [signature?_of (id := "set_iterator.__iter__") (n:=['_','_','r','e','t','i','_','_']) (o:=['r','o','t','a','r','e','t','i','_','t','e','s'])
  (by kernel_rfl) sg]
 kernel_rfl
theorem ml {first:Value}{i:Nat}{Q:Value->Shared->Prop}{n:Nat}(hit:fj s.heap I first i a n ep)(q:Q (.ref I) s):wpAny (model prog w) A (pyIter (.ref I)) Q E s:=by
 refine wpAny_pyIter_slot hit.type pV (Ja pV hit.type vg ?_ (xC _))
 show wpAny _ _ (ret (.ref I)) _ _ s
 exact IX ⟨_,rfl, "set_iterator",_,hit.type,slot_next.lookup,q⟩
theorem DT (hh:A.handled=none) (hI:a≠I) (hb:w.params.followText "set-order" = true) (nd:True) :
  Walks prog w A I [I,a] [I] es.size (fun i v=>∃e,(pickOrder (w.params.setOrder a ep) es)[i]?=some e/\e.2=v) (fun i h=>fj h I (.int 0 0) i a es.size ep/\dI knd h a ks o es ep t) where
 sub:=fun b hb=>by simp at hb;simp [hb]
 frame:=fun _ _ _ st k=>⟨st.1.keep fun o e=>k I (by simp) o e,st.2.keep fun o e=>k a (by simp) o e⟩
 item:=fun i s Q E hi st q=>by
  have z:(pickOrder (w.params.setOrder a ep) es).size=es.size:=by have:=(ir (w.params.setOrder a ep) es).length_eq;simpa using this
  have g:(pickOrder (w.params.setOrder a ep) es)[i]?=some ((pickOrder (w.params.setOrder a ep) es)[i]'(by omega)):=by simp
  refine uk (slot:=0) (nx:=0) st.1 st.2 (fun A E Q h=>y3 st.2 hb (by rw [g];exact h)) fun h' hit' sb=>?_
  exact q _ h' s.toks ⟨_,g,rfl⟩ ⟨hit',st.2.keep fun o e=>sb.extBut a o hI e⟩ fun b o hb e=>sb.extBut b o (fun z=>hb (by simp [z])) e
 done:=fun s Q E st q=>by
  have z:(pickOrder (w.params.setOrder a ep) es).size=es.size:=by have:=(ir (w.params.setOrder a ep) es).length_eq;simpa using this
  refine wo (slot:=0) hh st.1 st.2 (fun A E Q h=>y3 st.2 hb (by rw [Array.getElem?_eq_none (by omega)];exact h)) fun h' k=>?_
  exact q h' s.toks fun b o hb e=>k b o (fun z=>hb (by simp [z])) e
 self:=fun _ _ _ _ st q=>ml st.1 q
theorem oQ {α : Type}{es:Array α}:∀{ys:List Nat},(∀k∈ys,k<es.size)->∀i:Nat,(ys.filterMap fun k=>es[k]?)[i]?=(ys[i]?).bind fun k=>es[k]?
 | [],_,i=>by simp
 | y::ys,h,i=>by
  have hy:es[y]?=some (es[y]'(h y (Gx ..))):=by simp
  rw [HF,hy]
  cases i with
  | zero=>simp
  | succ i =>
   have:=oQ (ys:=ys) (fun k hk=>h k (Gv _ hk)) i
   simpa using this
def pW (t:SetTable):Nat->Nat
 | 0=>0
 | i+1=>t.place.getD i 0+1
theorem pX {t:SetTable}(up:Up t.place){i:Nat}(h:i<=t.place.size):SetTable.below t.place (pW t i)=i:=by
 cases i with
 | zero=>exact xA up
 | succ i =>
  have hi:i<t.place.size:=by omega
  have e:t.place[i]?=some (t.place.getD i 0):=by simp [Array.getD,hi]
  exact xy up e
theorem DU (hh:A.handled=none) (hI:a≠I) (hb:w.params.followText "set-order" = false) (hd:t.plain=true\/es.size<=1) (hf:t.fits es.size=true) (hr:Rp t) :
  Walks prog w A I [I,a] [I] es.size (fun i v=>∃e,es[i]?=some e/\e.2=v) (fun i h=>fj h I (.int (pW t i) 0) i a es.size ep/\dI knd h a ks o es ep t) where
 sub:=fun b hb=>by simp at hb;simp [hb]
 frame:=fun _ _ _ st k=>⟨st.1.keep fun o e=>k I (by simp) o e,st.2.keep fun o e=>k a (by simp) o e⟩
 item:=fun i s Q E hi st q=>by
  have z:t.place.size=es.size:=by simp only [SetTable.fits,G3,beq_iff_eq] at hf;exact hf.1
  have up:Up t.place:=by
   rcases hd with c | c
   ·exact hr c
   ·exact Up.cX (by omega)
  have g:es[i]?=some es[i]:=by simp [hi]
  have gp:t.place[i]?=some (t.place.getD i 0):=by simp [Array.getD,z,hi]
  refine uk (slot:=pW t i) (nx:=pW t (i+1)) (x:=es[i].2) st.1 st.2 (fun A E Q h=>y4 st.2 hb hd (pX up (by omega)) (by rw [g,gp];exact h)) fun h' hit' sb=>?_
  exact q _ h' s.toks ⟨_,g,rfl⟩ ⟨hit',st.2.keep fun o e=>sb.extBut a o hI e⟩ fun b o hb e=>sb.extBut b o (fun z=>hb (by simp [z])) e
 done:=fun s Q E st q=>by
  have z:t.place.size=es.size:=by simp only [SetTable.fits,G3,beq_iff_eq] at hf;exact hf.1
  have up:Up t.place:=by
   rcases hd with c | c
   ·exact hr c
   ·exact Up.cX (by omega)
  refine wo (slot:=pW t es.size) hh st.1 st.2 (fun A E Q h=>y4 st.2 hb hd (pX up (by omega)) (by rw [Array.getElem?_eq_none (Gj _)];exact h)) fun h' k=>?_
  exact q h' s.toks fun b o hb e=>k b o (fun z=>hb (by simp [z])) e
 self:=fun _ _ _ _ st q=>ml st.1 q
theorem DV {T:Addr}{oT:Obj}{ys:List Nat}(hh:A.handled=none)(hI:a≠I)(hT:T≠I)(dT:oT.data=.seq (ys.map fun (i:Nat)=>rawInt i).toArray 0)(hp:ys.Perm (G4 es.size)) :
  Walks prog w A I [I,a,T] [I] es.size (fun i v=>∃e,((ys.filterMap fun k=>es[k]?))[i]?=some e/\e.2=v) (fun i h=>fj h I (.ref T) i a es.size ep/\dI knd h a ks o es ep t/\h.get? T=some oT) where
 sub:=fun b hb=>by simp at hb;simp [hb]
 frame:=fun _ _ _ st k=>⟨st.1.keep fun o e=>k I (by simp) o e,st.2.1.keep fun o e=>k a (by simp) o e,k T (by simp) _ st.2.2⟩
 item:=fun i s Q E hi st q=>by
  have hl:ys.length=es.size:=by rw [hp.length_eq,IT]
  have hin:∀k∈ys,k<es.size:=fun k hk=>HB.mp (hp.mem_iff.mp hk)
  have h1:ys[i]?=some (ys[i]'(by omega)):=by simp
  have hk:ys[i]'(by omega)<es.size:=hin _ (List.getElem_mem _)
  generalize ys[i]'(by omega)=k at h1 hk
  have hx:es[k]?=some es[k]:=by simp [hk]
  have hv:(ys.filterMap fun k=>es[k]?)[i]?=some es[k]:=by
   rw [oQ hin,h1]
   exact hx
  refine AF (k:=k) (x:=es[k]) st.1 st.2.1 st.2.2 dT (by simp [h1,rawInt]) hx fun h' hit' sb=>?_
  exact q _ h' s.toks ⟨_,hv,rfl⟩ ⟨hit',st.2.1.keep fun o e=>sb.extBut a o hI e,sb.extBut T _ hT st.2.2⟩ fun b o hb e=>sb.extBut b o (fun z=>hb (by simp [z])) e
 done:=fun s Q E st q=>by
  have hl:ys.length=es.size:=by rw [hp.length_eq,IT]
  refine Cr hh st.1 st.2.1 st.2.2 dT (by simp [hl]) fun h' k=>?_
  exact q h' s.toks fun b o hb e=>k b o (fun z=>hb (by simp [z])) e
 self:=fun _ _ _ _ st q=>ml st.1 q
theorem mn {b x y:Addr}(h:b∈[x,y]):b=x\/b=y:=by simpa using h
theorem AG {b x y z:Addr}(h:b∈[x,y,z]):b=x\/b=y\/b=z:=by simpa using h
theorem xD:entryFor table "set.__iter__" = some Builtin.«frozenset.__iter__» :=
 entryFor_alias (id' := "frozenset.__iter__")
  (by kernel_rfl) rfl
  (by decide +kernel)
  (by kernel_rfl)
theorem dI.typeIs (S:dI knd s.heap a ks o es ep t):s.TypeIs (.ref a) "set" := ⟨o,S.at_,S.ex.1⟩
theorem vh {Q:Bool->Shared->Prop} (S:dI knd s.heap a ks o es ep t) (q:Q (!(w.params.followText "set-order")&&(!t.plain&&decide (es.size > 1))) s):wpAny (model prog w) A (setDrawn a) Q E s:=by
 unfold setDrawn
 refine IW (Jp S.at_ S.data S.fits ?_)
 dsimp only
 exact IW (nq (IX q))
def Comes (es:Array (Int×Value))(P:Nat->Value->Prop):Prop:=∃l:List (Int×Value),l.Perm es.toList/\P=fun i v=>∃e,l[i]?=some e/\e.2=v
theorem AH {Q:Value->Shared->Prop}(hh:A.handled=none)(S:dI knd s.heap a ks o es ep t)
  (q:∀(I:Addr) (h':Heap) (d:_) (fp:List Addr) (P:Nat->Value->Prop) (St:Nat->Heap->Prop),(∀b o,s.heap.get? b=some o->h'.get? b=some o)->s.heap.objs.size<=I->(∀b∈fp,b<h'.objs.size)->(∀b,h'.objs.size<=b->b∉fp) ->
   (∀b∈fp,b=a\/s.heap.objs.size<=b)->Comes es P->(∀A:Around,A.handled=none->Walks prog w A I fp [I] es.size P St)->St 0 h'->Q (.ref I) { s with heap:=h',drawn:=d }) :
  wpAny (model prog w) A (pyIter (.ref a)) Q E s:=by
 have la:a<s.heap.objs.size:=Gm S.at_
 refine wpAny_pyIter_slot S.typeIs PySem.F.slot_set_iter (Ja PySem.F.slot_set_iter S.typeIs xD ?_ (PySem.F.args_set_iter_1 _))
 unfold Builtin.«frozenset.__iter__»
 refine IW ?_
 unfold Builtin.Frozenset.slot0
 refine IW (IX ?_)
 refine IX ?_
 refine IW ?_
 unfold Builtin.Frozenset.sizeOf
 refine IW (Js S.at_ S.data S.fits (IX ?_))
 refine IW (vh S ?_)
 cases hb:w.params.followText "set-order" with
 | true =>
  rw [Bool.not_true,Bool.false_and,if_neg GJ]
  refine IW (IX ?_)
  refine IW (JE S.at_ S.data S.fits ?_)
  refine IW ?_
  simp only [newFields]
  refine Jc (IX ⟨_,rfl, "set_iterator",_,⟨_,Gu _ rfl,rfl⟩,slot_next.lookup,?_⟩) (by size_fits)
  refine q _ _ s.drawn [s.heap.objs.size,a] _ _ (fun b o e=>Gp _ e) (Gj _) (fun b hb=>?_) (fun b hb hm=>?_) (fun b hb=>?_) ⟨_,ir (w.params.setOrder a ep) es,?_⟩ (fun A hh=>DT (knd:=knd) (ks:=ks) (o:=o) (t:=t) hh (Gs la) hb trivial) ⟨⟨_,Gu _ rfl,rfl,rfl⟩,S.keep fun o e=>Gp _ e⟩
  ·rw [GP]
   rcases mn hb with e | e
   ·rw [e];exact Hf _
   ·rw [e];exact G6 la
  ·rw [GP] at hb
   rcases mn hm with e | e
   ·rw [e] at hb;exact Iw _ hb
   ·rw [e] at hb;exact G1 _ (GO la (HX hb))
  ·rcases mn hb with e | e
   ·exact .inr (by rw [e];exact Gj _)
   ·exact .inl e
  ·funext i v;simp
 | false =>
  rw [Bool.not_false,Iy]
  by_cases hd:(!t.plain&&decide (es.size > 1))=true
  ·rw [hd,if_pos rfl]
   refine IW (EH es.size (G4 es.size) s (by simp) fun ys d hp=>?_)
   have hz:(ys.map fun (i:Nat)=>rawInt i).length<=sizeLine:=by rw [Gi,hp.length_eq,IT];exact fits_of_scanBound S.cX
   refine IW (wpAny_newTuple ?_ hz)
   have S1:dI knd (s.heap.push { cls:=.type "tuple",data:=.seq (ys.map fun (i:Nat)=>rawInt i).toArray }) a ks o es ep t:=S.keep fun o e=>Gp _ e
   refine IW (JE S1.at_ S1.data S1.fits ?_)
   refine IW ?_
   simp only [newFields]
   refine Jc (IX ⟨_,rfl, "set_iterator",_,⟨_,Gu _ rfl,rfl⟩,slot_next.lookup,?_⟩) (by size_fits)
   refine q _ _ d [(s.heap.push { cls:=.type "tuple",data:=.seq (ys.map fun (i:Nat)=>rawInt i).toArray }).objs.size,a,s.heap.objs.size] _ _ (fun b o e=>Gp _ (Gp _ e)) (by rw [GP];exact Hn _) (fun b hb=>?_) (fun b hb hm=>?_) (fun b hb=>?_) ⟨ys.filterMap fun k=>es[k]?,?_,rfl⟩
    (fun A hh=>DV (knd:=knd) (ks:=ks) (o:=o) (t:=t) (oT:={ cls:=.type "tuple",data:=.seq (ys.map fun (i:Nat)=>rawInt i).toArray }) hh (by rw [GP];exact Gs (G6 la)) (by rw [GP];exact Gs (Hf _)) rfl hp) ⟨⟨_,Gu _ rfl,rfl,rfl⟩,S1.keep fun o e=>Gp _ e,Gp _ (Gu _ rfl)⟩
   ·rw [GP,GP]
    rcases AG hb with e | e | e
    ·rw [e,GP];exact Hf _
    ·rw [e];exact G6 (G6 la)
    ·rw [e];exact G6 (Hf _)
   ·rw [GP,GP] at hb
    rcases AG hm with e | e | e
    ·rw [e,GP] at hb;exact Iw _ hb
    ·rw [e] at hb;exact G1 _ (GO la (HX (HX hb)))
    ·rw [e] at hb;exact Iw _ (HX hb)
   ·rcases AG hb with e | e | e
    ·exact .inr (by rw [e,GP];exact Hn _)
    ·exact .inl e
    ·exact .inr (by rw [e];exact Gj _)
   ·refine (hp.filterMap _).trans ?_
    have:((G4 es.size).filterMap fun k=>es[k]?)=es.toList:=by
     refine List.ext_getElem? fun i=>?_
     rw [oQ (fun k hk=>HB.mp hk)]
     by_cases hi:i<es.size
     ·rw [List.getElem?_range hi];simp
     ·rw [HA (by simp;omega),HA (by simp;omega)];rfl
    rw [this]
  ·rw [if_neg hd]
   refine IW (IX ?_)
   refine IW (JE S.at_ S.data S.fits ?_)
   refine IW ?_
   simp only [newFields]
   refine Jc (IX ⟨_,rfl, "set_iterator",_,⟨_,Gu _ rfl,rfl⟩,slot_next.lookup,?_⟩) (by size_fits)
   have hd':t.plain=true\/es.size<=1:=by
    cases hp:t.plain with
    | true=>exact .inl rfl
    | false=>right;rw [hp] at hd;simp at hd;exact hd
   refine q _ _ s.drawn [s.heap.objs.size,a] _ _ (fun b o e=>Gp _ e) (Gj _) (fun b hb=>?_) (fun b hb hm=>?_) (fun b hb=>?_) ⟨es.toList,.refl _,?_⟩ (fun A hh=>DU (knd:=knd) (ks:=ks) (o:=o) (t:=t) hh (Gs la) hb hd' S.fits S.up) ⟨⟨_,Gu _ rfl,rfl,rfl⟩,S.keep fun o e=>Gp _ e⟩
   ·rw [GP]
    rcases mn hb with e | e
    ·rw [e];exact Hf _
    ·rw [e];exact G6 la
   ·rw [GP] at hb
    rcases mn hm with e | e
    ·rw [e] at hb;exact Iw _ hb
    ·rw [e] at hb;exact G1 _ (GO la (HX hb))
   ·rcases mn hb with e | e
    ·exact .inr (by rw [e];exact Gj _)
    ·exact .inl e
   ·funext i v;simp
theorem AI {Q:Bool->Shared->Prop} (hT:s.TypeIs (.ref a) "set") (q:Q false s):wpAny (model prog w) A (Builtin.List.listLengthHint (.ref a)) Q E s:=by
 unfold Builtin.List.listLengthHint
 refine IW (wpAny_specialOf hT PySem.F.slot_set_len.lookup ?_)
 generalize hid:("set.__len__" : String)=id0
 wp_delta
 rw [show splitId id0=some ("set", "__len__") from by subst hid;decide +kernel]
 subst hid
 refine IW (Jr (T := "set") (b:=true) hT sub_set_self ?_)
 refine Jz (fun hab=>absurd hab (by decide)) (fun _=>?_)
 refine Jz (fun _=>?_) (fun hab=>absurd (by decide +kernel) hab)
 refine IW (Jl hT ?_)
 exact IX q
end
open PySem.Calls PySem.W
section
variable {prog:Program}{w:World}{K:Type}[DecidableEq K]{knd:KeyKind prog w K}
variable {A:Around}{E:Value->Shared->Prop}{s:Shared}{a:Addr}{ks:List K}{o:Obj}{es:Array (Int×Value)}{ep:Nat}{t:SetTable}
theorem vi {P:Nat->Value->Prop}{got:Array Value}(hc:Comes es P)(hi:ItemsOf P got es.size):∃l:List (Int×Value),l.Perm es.toList/\got.toList=l.map (·.2):=by
 obtain⟨l,hp,rfl⟩:=hc
 refine⟨l,hp,?_⟩
 have hl:l.length=es.size:=by rw [hp.length_eq,G7]
 refine List.ext_getElem? fun i=>?_
 rw [Gz]
 by_cases h:i<es.size
 ·have e1:got.toList[i]?=some (got[i]'(by rw [hi.1];exact h)):=by simp [hi.1,h]
  obtain⟨e,he,hv⟩:=hi.2 i _ (by rw [<-HS];exact e1)
  rw [e1,he,<-hv];rfl
 ·rw [HA (by rw [G7,hi.1];omega),HA (by omega)];rfl
theorem xE {R:Result->Shared->Prop}(hh:A.handled=none)(S:dI knd s.heap a ks o es ep t)(L:Addr)(hLa:L≠a)(hL:s.heap.get? L=some { cls:=.type "list",data:=.seq #[] 0 })(res:Value)
  (fin:∀(g:Heap) (tk:Nat) (d:_) (got:Array Value) (c:Nat),(∀b o,b≠L->s.heap.get? b=some o->g.get? b=some o)->g.get? L=some { cls:=.type "list",dict:=none,data:=.seq got c,slots:=#[] } ->
   (∃l:List (Int×Value),l.Perm es.toList/\got.toList=l.map (·.2))->R (.ok (.ret res)) { s with heap:=g,toks:=tk,drawn:=d }) :
  wpAny (model prog w) A.in1 (Builtin.List.listExtendWith (.ref L) (.ref a) res)
   (fun fin s'=>match fin with | .done f=>R (.ok f) s' | .again c'=>c'.quiet=true/\codeAny (model prog w) A c' R s') (fun e s'=>R (.error e) s') s:=by
 have hz:es.size<=sizeLine:=fits_of_scanBound S.cX
 unfold Builtin.List.listExtendWith
 refine IW (Jl S.typeIs ?_)
 have h1:Builtin.List.listSameRef (.ref L) (.ref a)=false:=by simp [Builtin.List.listSameRef,hLa]
 rw [h1]
 have h2:(Value.type "set" == Value.type "list")=false:=by decide
 have h3:(Value.type "set" == Value.type "tuple")=false:=by decide
 rw [h2,h3]
 rw [if_neg (by decide)]
 refine IW (AH (A:=A.in1) hh S fun I h1 d fp P St keep hI hfp hnew hof hc W st=>?_)
 have hLlt:L<s.heap.objs.size:=Gm hL
 have hLf:L∉fp:=fun hm=>by
  rcases hof L hm with e | e
  ·exact hLa e
  ·exact G1 _ (GO hLlt e)
 have hLI:L≠I:=fun e=>G1 _ (GO hLlt (e ▸ hI))
 have Wk:=W A.in1 hh
 have loop:∀(g:Heap) (c tk:Nat),St 0 g->(∀b o,b≠L->s.heap.get? b=some o->g.get? b=some o)->g.get? L=some { cls:=.type "list",data:=.seq #[] c } ->
   codeAny (model prog w) A (.builtin "list.extend.loop" ⟨[.ref L,.ref I,res],[]⟩) R { s with heap:=g,toks:=tk,drawn:=d }:=by
  intro g c tk st' kp gL
  refine codeAny_extend_loopS Wk.toS hz L hLf res es.size 0 _ #[] c rfl (GI _) st' gL (ItemsOf.nil _) fun s' got c' mv gL' its=>?_
  have e:=Moved.eq_with mv
  rw [e]
  refine fin s'.heap s'.toks d got c' (fun b o hb e=>mv.heap b o (fun hm=>?_) (kp b o hb e)) gL' (vi hc its)
  rcases Gn.mp hm with e' | hm
  ·exact hb e'
  ·rw [Gk] at hm
   subst hm
   exact G1 _ (GO (Gm e) hI)
 have gL1:=keep _ _ hL
 refine IW (IZ (AI ⟨o,keep _ _ S.at_,S.ex.1⟩ ?_))
 refine Jz (fun _=>?_) (fun _=>IX ⟨plainId_quiet PySem.F.plain_extend_loop _,loop _ 0 _ st (fun b o _ e=>keep b o e) gL1⟩)
 refine IW (Jg ?_)
 refine IW ?_
 show wpAny _ _ (updateSeq L (·.push .none) >>= fun _=>updateSeq L (·.pop)) _ _ _
 refine IW (wpAny_updateSeq gL1 rfl ?_)
 have gL2:=Hq (Obj.mapSeq (·.push Value.none)) gL1 rfl
 refine wpAny_updateSeq (hz:=by seq_fits) gL2 rfl ?_
 have gL3:=Hq (Obj.mapSeq (·.pop)) gL2 rfl
 refine IX ⟨plainId_quiet PySem.F.plain_extend_loop _,loop _ _ _ ?_ (fun b o hb e=>?_) gL3⟩
 ·refine Wk.frame 0 _ _ st fun b hb o e=>?_
  have hbL:b≠L:=fun h=>hLf (h ▸ hb)
  exact (Hg _ _ (Ne.symm hbL)).trans ((Hg _ _ (Ne.symm hbL)).trans e)
 ·exact (Hg _ _ (Ne.symm hb)).trans ((Hg _ _ (Ne.symm hb)).trans (keep b o e))
theorem pY {G:List Value->Shared->Prop}(calm:A.handled=none)(S:dI knd s.heap a ks o es ep t)
  (fin:∀(g:Heap) (tk:Nat) (d:_) (got:Array Value),(∀b o,s.heap.get? b=some o->g.get? b=some o)->(∃l:List (Int×Value),l.Perm es.toList/\got.toList=l.map (·.2))->s.heap.objs.size<=g.objs.size->G got.toList { s with heap:=g,toks:=tk,drawn:=d }) :
  wpAny (model prog w) A (collect (.ref a)) G E s:=by
 have la:a<s.heap.objs.size:=Gm S.at_
 unfold collect
 refine IW (wpAny_runValue (Je entry_proto_collect' ?_))
 rw [Hs PySem.F.plain_proto_collect _]
 show wpAny _ A.in1 (newList [] >>= fun z=>again (.builtin "list.__iadd__" ⟨[z,.ref a],[]⟩)) _ _ s
 refine IW (Jc (IX ⟨plainId_quiet PySem.F.plain_list_iadd _,Je entry_list_iadd' ?_⟩))
 rw [Hs PySem.F.plain_list_iadd _]
 show wpAny _ A.in1 (Builtin.List.listExtendWith (.ref s.heap.objs.size) (.ref a) (.ref s.heap.objs.size)) _ _ _
 have made:(s.heap.push { cls:=.type "list",data:=.seq ([]:List Value).toArray }).get? s.heap.objs.size=some { cls:=.type "list",data:=.seq #[] 0 }:=Gu _ rfl
 have run:=xE (A:=A) (s:={ s with heap:=s.heap.push { cls:=.type "list",data:=.seq ([]:List Value).toArray } })
  (R:=fun (z:Result) (t:Shared)=>∃(g:Heap) (tk:Nat) (d:_) (got:Array Value) (c:Nat),z=.ok (.ret (.ref s.heap.objs.size))/\t={ s with heap:=g,toks:=tk,drawn:=d } /\
   (∀b o,s.heap.get? b=some o->g.get? b=some o)/\g.get? s.heap.objs.size=some { cls:=.type "list",dict:=none,data:=.seq got c,slots:=#[] }/\∃l:List (Int×Value),l.Perm es.toList/\got.toList=l.map (·.2))
  calm (S.keep fun o e=>Gp _ e) s.heap.objs.size (Hk la) made (.ref s.heap.objs.size)
  (fun g tk d got c kept at_ its=>⟨g,tk,d,got,c,rfl,rfl,fun b o e=>kept b o (Gs (Gm e)) (Gp _ e),at_,its⟩)
 refine IY run (fun z t x=>?_) fun z t ⟨_,_,_,_,_,bad,_⟩=>by cases bad
 cases z with
 | done f =>
  obtain⟨g,tk,d,got,c,e,rfl,kept,at_,its⟩:=x
  cases e
  show wpAny _ A (load s.heap.objs.size >>= _) _ _ _
  exact IW (wpAny_load at_ (IX (fin g tk d got kept its (GZ (Gm at_)))))
 | again more =>
  refine⟨x.1,Jh x.2 fun z' t' ⟨g,tk,d,got,c,e1,e2,kept,at_,its⟩=>?_⟩
  subst e1 e2
  show wpAny _ A (load s.heap.objs.size >>= _) _ _ _
  exact IW (wpAny_load at_ (IX (fin g tk d got kept its (GZ (Gm at_)))))
end
end LS
namespace L2
open PySem PySem.Spec PyProof.Rows LS
theorem og {P:Program}{w:World}{i:Int}{v:Value}(h:(aQ P w).is (Sum.inl i) v=true):∃t,v=.int i t:=by
 rcases cY (show iC (Sum.inl i) v=true from h) with ⟨j,t,e,rfl⟩ | ⟨x,t,e,rfl⟩
 ·cases e;exact⟨t,rfl⟩
 ·cases e
def pZ (m:List Key):List Str:=m.filterMap fun k=>match k with | .inr x=>some x | .inl _=>none
def p7 (m:List Key):List Int:=m.filterMap fun k=>match k with | .inl x=>some x | .inr _=>none
theorem y6 (ss:List Str):pZ (ss.map Sum.inr)=ss:=by
 induction ss with
 | nil=>rfl
 | cons x ss ih=>show x::pZ (ss.map Sum.inr)=x::ss;rw [ih]
theorem y7 (ss:List Int):p7 (ss.map Sum.inl)=ss:=by
 induction ss with
 | nil=>rfl
 | cons x ss ih=>show x::p7 (ss.map Sum.inl)=x::ss;rw [ih]
theorem AJ {m:List Key}{ss:List Str}(p:m.Perm (ss.map Sum.inr)):m=(pZ m).map Sum.inr/\(pZ m).Perm ss:=by
 refine⟨?_,by have:=p.filterMap (fun k:Key=>match k with | .inr x=>some x | .inl _=>none);rw [show List.filterMap _ (ss.map Sum.inr)=ss from y6 ss] at this;exact this⟩
 have hall:∀k∈m,∃x,k=Sum.inr x:=fun k hk=>by
  obtain⟨x,_,rfl⟩:=GL.mp (p.mem_iff.mp hk)
  exact⟨x,rfl⟩
 clear p
 induction m with
 | nil=>rfl
 | cons k m ih =>
  obtain⟨x,rfl⟩:=hall k (Gx ..)
  have:=ih fun k hk=>hall k (Gv _ hk)
  show Sum.inr x::m=Sum.inr x::(pZ m).map Sum.inr
  rw [<-this]
theorem AK {m:List Key}{ss:List Int}(p:m.Perm (ss.map Sum.inl)):m=(p7 m).map Sum.inl/\(p7 m).Perm ss:=by
 refine⟨?_,by have:=p.filterMap (fun k:Key=>match k with | .inl x=>some x | .inr _=>none);rw [show List.filterMap _ (ss.map Sum.inl)=ss from y7 ss] at this;exact this⟩
 have hall:∀k∈m,∃x,k=Sum.inl x:=fun k hk=>by
  obtain⟨x,_,rfl⟩:=GL.mp (p.mem_iff.mp hk)
  exact⟨x,rfl⟩
 clear p
 induction m with
 | nil=>rfl
 | cons k m ih =>
  obtain⟨x,rfl⟩:=hall k (Gx ..)
  have:=ih fun k hk=>hall k (Gv _ hk)
  show Sum.inl x::m=Sum.inl x::(p7 m).map Sum.inl
  rw [<-this]
section
variable {prog:Program}{w:World}{A:Around}{E:Value->Shared->Prop}{s:Shared}{a:Addr}{ks:List Key}{o:Obj}{es:Array (Int×Value)}{ep:Nat}{t:SetTable}
theorem um {got:List Value}(S:LS.dI (aQ prog w) s.heap a ks o es ep t)(h:∃l:List (Int×Value),l.Perm es.toList/\got=l.map (·.2)):∃m:List Key,m.Perm ks/\Paired (fun v k=>(aQ prog w).is k v=true) got m:=by
 obtain⟨l,hp,rfl⟩:=h
 obtain⟨ls,q1,q2⟩:=S.ents
 obtain⟨m,m1,m2⟩:=jT hp q2
 refine⟨m,m1.trans q1,?_⟩
 clear hp q2 m1
 induction m2 with
 | nil=>exact .nil
 | cons r _ ih=>exact .cons r.1 ih
theorem mq:∀{got:List Value} {ss:List Str},Paired (fun v k=>(aQ prog w).is k v=true) got (ss.map Sum.inr)->StrsAre got ss
 | _,[],.nil=>.nil
 | _,x::ss,.cons r t=>by
  obtain⟨t',rfl⟩:=jS r
  exact .cons x t' (mq t)
theorem mr:∀{got:List Value} {ss:List Int},Paired (fun v k=>(aQ prog w).is k v=true) got (ss.map Sum.inl)->IntsAre got ss
 | _,[],.nil=>.nil
 | _,x::ss,.cons r t=>by
  obtain⟨t',rfl⟩:=og r
  exact .cons x t' (mr t)
theorem vj {ss:List Str}{Q:Value->Shared->Prop}(hh:A.handled=none)(S:LS.dI (aQ prog w) s.heap a (ss.map Sum.inr) o es ep t)(h64:ss.length<64)
  (q:∀(h':Heap) (tk:Nat) (d:_) (D:Addr) (out:Array Value) (ss':List Str) (e:Nat),(∀b o,s.heap.get? b=some o->h'.get? b=some o)->s.heap.objs.size<=D->h'.get? D=some { cls:=.type "list",data:=.seq out e } ->
   StrsAre out.toList ss'->ss'.Perm ss->sortedS ss' = true->Q (.ref D) { s with heap:=h',toks:=tk,drawn:=d }) :
  wpAny (model prog w) A (call (.builtin "sorted") [.ref a]) Q E s:=by
 refine Calls.call_function_entry kind_sorted plain_sorted entry_sorted (args_sorted1 _) ?_
 unfold Builtin.«sorted»
 refine IW (m:=checkCount "sorted" 1 1 _) (IX ?_)
 refine IW (pY (A:=A.in1) hh S fun h' tk d acc hkeep hacc hsz=>?_)
 obtain⟨m,m1,m2⟩:=um S hacc
 obtain⟨e1,p1⟩:=AJ m1
 rw [e1] at m2
 have hS:=mq m2
 have hl:acc.toList.length<64:=by rw [m2.length,Gi,p1.length_eq];exact h64
 refine IW (Jw ?_ (Gr (GZ hl) (by decide)))
 have hoL:(h'.push (seqObj "list" acc.toList.toArray 0)).get? h'.objs.size=some (seqObj "list" acc.toList.toArray 0):=Gu _ rfl
 refine IW (IZ (Ja slot_list_sort ⟨_,hoL,rfl⟩ entry_list_sort (list_sort_treeK strKind_oneLt hoL hS.keysOf (fun v₁ v₂ rest e=>keyKind_strs (by rw [<-e];exact hS)) hl fun st' a1 a2=>⟨_,rfl,?_⟩) (args_list_sort _)))
 obtain⟨ss',b1,b2,b3⟩:=sorted_out_str hS a1 a2
 obtain⟨e,he⟩:=sortedHeap_at (out:=(arrOf st').map (·.2)) hoL
 refine IX ⟨_,rfl,q _ tk d _ _ ss' e (fun b o ho=>?_) hsz he b1 (b2.trans p1) b3⟩
 have h1:=hkeep b o ho
 have hlt:=Gm h1
 rw [sortedHeap_old (Gs hlt) (by rw [size_push'];exact G6 hlt)]
 exact Gp _ h1
theorem vk {ss:List Int}{Q:Value->Shared->Prop}(hh:A.handled=none)(S:LS.dI (aQ prog w) s.heap a (ss.map Sum.inl) o es ep t)(h64:ss.length<64)
  (q:∀(h':Heap) (tk:Nat) (d:_) (D:Addr) (out:Array Value) (ss':List Int) (e:Nat),(∀b o,s.heap.get? b=some o->h'.get? b=some o)->s.heap.objs.size<=D->h'.get? D=some { cls:=.type "list",data:=.seq out e } ->
   IntsAre out.toList ss'->ss'.Perm ss->ss'.Pairwise (· <= ·)->Q (.ref D) { s with heap:=h',toks:=tk,drawn:=d }) :
  wpAny (model prog w) A (call (.builtin "sorted") [.ref a]) Q E s:=by
 refine Calls.call_function_entry kind_sorted plain_sorted entry_sorted (args_sorted1 _) ?_
 unfold Builtin.«sorted»
 refine IW (m:=checkCount "sorted" 1 1 _) (IX ?_)
 refine IW (pY (A:=A.in1) hh S fun h' tk d acc hkeep hacc hsz=>?_)
 obtain⟨m,m1,m2⟩:=um S hacc
 obtain⟨e1,p1⟩:=AK m1
 rw [e1] at m2
 have hS:=mr m2
 have hl:acc.toList.length<64:=by rw [m2.length,Gi,p1.length_eq];exact h64
 refine IW (Jw ?_ (Gr (GZ hl) (by decide)))
 have hoL:(h'.push (seqObj "list" acc.toList.toArray 0)).get? h'.objs.size=some (seqObj "list" acc.toList.toArray 0):=Gu _ rfl
 refine IW (IZ (Ja slot_list_sort ⟨_,hoL,rfl⟩ entry_list_sort (list_sort_tree hoL hS hl fun out ss' b1 b2 b3=>⟨_,rfl,?_⟩) (args_list_sort _)))
 obtain⟨e,he⟩:=sortedHeap_at (out:=out) hoL
 refine IX ⟨_,rfl,q _ tk d _ _ ss' e (fun b o ho=>?_) hsz he b1 (b2.trans p1) b3⟩
 have h1:=hkeep b o ho
 have hlt:=Gm h1
 rw [sortedHeap_old (Gs hlt) (by rw [size_push'];exact G6 hlt)]
 exact Gp _ h1
end
def cK (P:Program)(w:World)(a:Addr)(ks:List Key):HO:=.ext fun h=>eM (aQ P w) h a ks
theorem ki {P:Program}{w:World}{H:Hp}{h:Heap}{a:Addr}{ks:List Key}(S:eM (aQ P w) h a ks):bM P w H h a (cK P w a ks) :=
 ⟨S,let ⟨o,_,_,_,S⟩:=S;⟨o,S.at_⟩,fun h1 h2 S k=>S.keep k⟩
section
variable {X:Cx}{pins:List (Addr×Obj)}{Gf : List (Option V)}{H:Hp}{s:Shared}
theorem Inv.qX {a:Addr}{ks:List Key}(I:Inv X pins Gf H s)(h:H a=some (cK X.prog X.w a ks)):eM (aQ X.prog X.w) s.heap a ks:=(I.aL a _ h).1
theorem Inv.wq {d:_}(I:Inv X pins Gf H s):Inv X pins Gf H { s with drawn:=d }:=⟨I.ok,I.os,I.bare,I.base,I.loc,I.cell,I.free,I.dz,I.pin,I.aL,I.len⟩
theorem sR (hc:X.calm=true):dW X (.builtin "sorted") (fun vs H Q=>∃(a:Addr) (ss:List Str),vs=[.ref a]/\H a=some (cK X.prog X.w a (ss.map Sum.inr))/\ss.length<64 /\
  ∀(l:Addr) (ss':List Str),ss'.Perm ss->sortedS ss' = true->H l=none->Q (.ref l) (upd H l (.lst (ss'.map V.str)))):=by
 intro pins s Gf H xs us Q I r h
 obtain⟨a,ss,rfl,ha,h64,q⟩:=h
 obtain⟨u,rfl,ru⟩:=vals1 r
 cases (show u=Value.ref a from ru)
 obtain⟨o,es,ep,t,S⟩:=I.qX ha
 refine vj (I.ok.hd hc) S h64 fun h' tk d D out ss' e hkeep hD he hS hp hs=>?_
 have hv:Vals (ss'.map V.str) out.toList:=qU hS
 refine⟨.ref D,_,(I.wq (d:=d)).laid (t':=tk) (o:=.lst (ss'.map V.str)) hkeep hD (show bM X.prog X.w _ h' _ (.lst (ss'.map V.str)) from ⟨?_,out.toList,e,hv,by simpa using he⟩),rfl,q D ss' hp hs (I.aL.fresh hD)⟩
 rw [Gi,hp.length_eq]
 exact Gr (GZ h64) (by decide)
theorem lN (hc:X.calm=true):dW X (.builtin "sorted") (fun vs H Q=>∃(a:Addr) (ss:List Int),vs=[.ref a]/\H a=some (cK X.prog X.w a (ss.map Sum.inl))/\ss.length<64 /\
  ∀(l:Addr) (ss':List Int),ss'.Perm ss->ss'.Pairwise (· <= ·)->H l=none->Q (.ref l) (upd H l (.lst (ss'.map V.int)))):=by
 intro pins s Gf H xs us Q I r h
 obtain⟨a,ss,rfl,ha,h64,q⟩:=h
 obtain⟨u,rfl,ru⟩:=vals1 r
 cases (show u=Value.ref a from ru)
 obtain⟨o,es,ep,t,S⟩:=I.qX ha
 refine vk (I.ok.hd hc) S h64 fun h' tk d D out ss' e hkeep hD he hS hp hs=>?_
 have hv:Vals (ss'.map V.int) out.toList:=iN hS
 refine⟨.ref D,_,(I.wq (d:=d)).laid (t':=tk) (o:=.lst (ss'.map V.int)) hkeep hD (show bM X.prog X.w _ h' _ (.lst (ss'.map V.int)) from ⟨?_,out.toList,e,hv,by simpa using he⟩),rfl,q D ss' hp hs (I.aL.fresh hD)⟩
 rw [Gi,hp.length_eq]
 exact Gr (GZ h64) (by decide)
end
end L2
namespace LS
open PySem PySem.Spec PyProof.Rows L2
section
variable {K:Type}[DecidableEq K]
def putIn (acc:List K)(k:K):List K:=if k∈acc then acc else acc++[k]
def cI (ms:List K):List K:=ms.foldl putIn []
theorem eR {acc:List K}{k x:K}:x∈putIn acc k↔x∈acc\/x=k:=by
 unfold putIn
 split
 ·rename_i h
  exact⟨.inl,fun z=>z.elim id (fun e=>e ▸ h)⟩
 ·simp
theorem y8 (acc:List K)(k:K):(putIn acc k).length<=acc.length+1:=by unfold putIn;split <;> simp
theorem uo:∀(ms acc:List K) (x:K),x∈ms.foldl putIn acc↔x∈acc\/x∈ms
 | [],acc,x=>by simp
 | k::ms,acc,x=>by
  rw [HI,uo ms,eR]
  simp [or_assoc]
theorem jK {ms:List K}{x:K}:x∈cI ms↔x∈ms:=by unfold cI;rw [uo];simp
theorem uq:∀(ms acc:List K),(ms.foldl putIn acc).length<=acc.length+ms.length
 | [],acc=>by simp
 | k::ms,acc=>by
  rw [HI]
  have:=uq ms (putIn acc k)
  have:=y8 acc k
  simp only [G0];omega
theorem wu:∀(ms acc:List K),acc.Nodup->(ms.foldl putIn acc).Nodup
 | [],acc,h=>h
 | k::ms,acc,h=>by
  rw [HI]
  refine wu ms _ ?_
  unfold putIn
  split
  ·exact h
  ·rename_i hn
   rw [Hz]
   exact⟨h,by simp,fun a ha b hb e=>hn (by rw [Gk] at hb;rw [<-hb,<-e];exact ha)⟩
theorem oR (ms:List K):(cI ms).Nodup:=wu ms [] Hi
end
section
variable {prog:Program}{w:World}{A:Around}{E:Value->Shared->Prop}{s:Shared}
theorem ur {k:Key}{v:Value}(h:(aQ prog w).is k v=true):v.scannable=true:=by
 rcases cY (show iC k v=true from h) with ⟨j,t,_,rfl⟩ | ⟨x,t,_,rfl⟩ <;> rfl
theorem qY {a:Addr}{ks:List Key}{k:Key}{v:Value}{Q:Bool->Shared->Prop}(hk:(aQ prog w).is k v=true)(S:eM (aQ prog w) s.heap a ks)(room:ks.length+1<scanBound)
  (q:∀h',GW a s.heap h'->eM (aQ prog w) h' a (putIn ks k)->∀c:Bool,Q c { s with heap:=h',toks:=s.toks+1 }):wpAny (model prog w) A (setAdd a v) Q E s:=by
 unfold setAdd
 refine IZ ?_
 refine IW ((aQ prog w).pyHash hk ?_)
 exact xB (s:={ s with toks:=s.toks+1 }) hk (ur hk) S room fun h' b S'=>q h' b S' _
theorem AL {a:Addr}{ks:List Key}{k:Key}{v:Value}{Q:Value->Shared->Prop}(hk:(aQ prog w).is k v=true)(S:eM (aQ prog w) s.heap a ks)(room:ks.length+1<scanBound)
  (q:∀h',GW a s.heap h'->eM (aQ prog w) h' a (putIn ks k)->Q .none { s with heap:=h',toks:=s.toks+1 }):wpAny (model prog w) A (call (.builtin "set.add") [.ref a,v]) Q E s:=by
 refine Ja PySem.F.slot_set_add S.setOf.typeIs PySem.F.entry_set_add ?_ (PySem.F.args_set_add_2 _ _)
 unfold Builtin.«set.add» Builtin.Frozenset.oneOther
 simp only [List.isEmpty_nil,bind_assoc]
 unfold Builtin.Frozenset.addrOf
 refine IW (IX ?_)
 refine IW (IX ?_)
 refine IW (qY hk S room fun h' b S' _=>?_)
 exact IX ⟨_,rfl,q h' b S'⟩
theorem y9 {I L:Addr}{fp wr:List Addr}{G:Array GenState->Array GenState->Prop}{n:Nat}{P:Nat->Value->Prop}{St:Nat->Shared->Prop}{R:Result->Shared->Prop}(W:WalksS prog w A.in1 I fp wr G n P St)(hLf:L∉fp)
  (ms:List Key) (hl:ms.length=n) (hm:∀i v,P i v->∃k,ms[i]?=some k/\(aQ prog w).is k v=true) (hb:n+1<scanBound) :
  ∀(k i:Nat) (s:Shared),n-i=k->i<=n->St i s->eM (aQ prog w) s.heap L (cI (ms.take i)) ->
   (∀s',Moved (L::wr) G s s'->eM (aQ prog w) s'.heap L (cI ms)->R (.ok (.ret .none)) s') ->
   codeAny (model prog w) A (.builtin "set.update.loop" ⟨[.ref L,.ref I],[]⟩) R s:=by
 have hLw:L∉wr:=fun h=>hLf (W.sub _ h)
 intro k
 induction k with
 | zero =>
  intro i s hk hi st S q
  have e:i=n:=by omega
  subst e
  refine Je PyProof.Rows.F.entry_set_update_loop ?_
  rw [Hs PyProof.Rows.F.plain_set_update_loop _]
  show wpAny _ A.in1 (pyNext (.ref I) >>= _) _ _ s
  refine IW (W.done s _ _ st fun s' mv=>?_)
  refine IX (q s' (mv.mono fun b hb=>Gv _ hb) ?_)
  rw [IQ (by omega)] at S
  exact S.keep fun o e=>mv.heap L _ hLw e
 | succ k ih =>
  intro i s hk hi st S q
  have hlt:i<n:=by omega
  refine Je PyProof.Rows.F.entry_set_update_loop ?_
  rw [Hs PyProof.Rows.F.plain_set_update_loop _]
  show wpAny _ A.in1 (pyNext (.ref I) >>= _) _ _ s
  refine IW (W.item i s _ _ hlt st fun v s' hP st' mv=>?_)
  obtain⟨key,hkey,his⟩:=hm i v hP
  have S':eM (aQ prog w) s'.heap L (cI (ms.take i)):=S.keep fun o e=>mv.heap L _ hLw e
  refine IW (IZ (qY his S' ?_ fun h' sb S2 _=>?_))
  ·have h1:=uq (ms.take i) []
   have h2:(ms.take i).length<=i:=by rw [G9];omega
   have h3:(cI (ms.take i)).length<=0+(ms.take i).length:=h1
   omega
  ·have e1:putIn (cI (ms.take i)) key=cI (ms.take (i+1)):=by
    unfold cI
    rw [GN,hkey,HY];rfl
   rw [e1] at S2
   refine IX ⟨plainId_quiet PyProof.Rows.F.plain_set_update_loop _,ih (i+1) _ (by omega) hlt (W.frame _ s' _ _ st' (Hn _) fun b hb o e=>?_) S2 fun s'' mv2 S3=>?_⟩
   ·rw [sb.2 b (fun h:b=L=>hLf (by rw [<-h];exact hb))];exact e
   ·refine q s'' (Moved.trans W.gtrans ((mv.mono fun b hb=>Gv _ hb).then_heap (Hn _) fun b o hb e=>?_) mv2) S3
    rw [sb.2 b (fun h:b=L=>hb (by rw [h];exact Gx))];exact e
end
theorem kH {α β : Type}{F:α->β->Prop}:∀{l:List α} {m:List β},Paired F l m->∀{i:Nat} {x:α},l[i]?=some x->∃y,m[i]?=some y/\F x y
 | _,_,.nil,i,x,e=>by simp at e
 | _,_,.cons r _,0,x,e=>by simp at e;subst e;exact⟨_,rfl,r⟩
 | _,_,.cons _ t,i+1,x,e=>by simpa using kH t (i:=i) (x:=x) (by simpa using e)
def du (w:World):Obj:={ cls:=.type "set",dict:=none,data:=.set #[] 0 (.fresh 0 0 (!(w.params.followText "set-order"))) }
section
variable {prog:Program}{w:World}{A:Around}{E:Value->Shared->Prop}{s:Shared}
theorem za (rest:List Value) (hc:checkBuiltinCall "set.__new__" ⟨.type "set" :: rest,[]⟩=pure ()) {Q:Value->Shared->Prop} (q:Q (.ref s.heap.objs.size) { s with heap:=s.heap.push (du w) }) :
  codeAny (model prog w) A (.call (.builtin "set.__new__") ⟨.type "set" :: rest,[]⟩) (wants Q E) s:=by
 refine codeAny_of_tree ?_
 show wpAny _ A.in1 (checkBuiltinCall "set.__new__" ⟨.type "set" :: rest,[]⟩ >>= fun _=>again (.builtin "set.__new__" ⟨.type "set" :: rest,[]⟩)) _ _ s
 refine IW (wpAny_of_eq hc (IX ⟨plainId_quiet PySem.F.plain_set_new _,Je PySem.F.entry_set_new ?_⟩))
 rw [Hs PySem.F.plain_set_new _]
 unfold Builtin.«set.__new__» Builtin.Frozenset.newClass
 have hsub:=sub_set_self
 obtain⟨hp,g,d,tk,os⟩:=s
 dsimp only
 wp_walk
 refine Jy (IX ?_)
 dsimp only
 simp only [newObj]
 refine IW (Jt (IX ?_))
 exact IX q
theorem uu {rest:List Value} {Q:Value->Shared->Prop} (hct:checkTypeCall "set" ⟨rest,[]⟩=pure ()) (hcn:checkBuiltinCall "set.__new__" ⟨.type "set" :: rest,[]⟩=pure ())
  (hci:∀(M:Model) (A:Around) (E:Value->Shared->Prop) (s':Shared) (Q':Unit->Shared->Prop),s'.TypeIs (.ref s.heap.objs.size) "set" -> Q' () s'->wpAny M A (checkBuiltinCall "set.__init__" ⟨.ref s.heap.objs.size::rest,[]⟩) Q' E s')
  (init:∀(R:Result->Shared->Prop),(∀h' tk,(∀b o,s.heap.get? b=some o->h'.get? b=some o)->Q (.ref s.heap.objs.size) { s with heap:=h',toks:=tk }->R (.ok (.ret .none)) { s with heap:=h',toks:=tk }) ->
   wpAny (model prog w) A.in1.in1 (Builtin.«set.__init__» ⟨.ref s.heap.objs.size::rest,[]⟩) (fun fin s'=>match fin with | .done f=>R (.ok f) s' | .again c'=>c'.quiet=true/\codeAny (model prog w) A.in1 c' R s') (fun e s'=>R (.error e) s')
    { s with heap:=s.heap.push (du w) }) :
  wpAny (model prog w) A (call (.type "set") rest) Q E s:=by
 obtain⟨c,tl,hmro⟩:=PySem.F.called_set.mro
 have hmade:=PySem.F.called_set.made
 have hsub:=PySem.F.called_set.sub
 refine wpAny_call (codeAny_of_tree ?_)
 show wpAny _ _ (callAny (.type "set") _) _ _ _
 refine IX ⟨Code.quiet_builtin _ (by decide +kernel),Je PySem.F.entry_type_call ?_⟩
 rw [Around.under_plain (weight_type_call_type "set" rest []) rfl]
 have h1:=PySem.F.called_set.notType
 have h2:=PySem.F.called_set.canCreate
 repeat (any_goals (first | assumption | wp_step))
 refine Jh (za (w:=w) rest hcn (E:=E) (Q:=fun obj s₁=>obj=.ref s.heap.objs.size/\s₁ = { s with heap:=s.heap.push (du w) }) ⟨rfl,rfl⟩) fun r s₁ hr=>?_
 cases r with
 | error e=>exact hr
 | ok fl =>
  cases fl with
  | ret obj =>
   obtain⟨rfl,rfl⟩:=hr
   have hS:(s.heap.push (du w)).get? s.heap.objs.size=some (du w):=Gu _ rfl
   have hT:Shared.TypeIs { s with heap:=s.heap.push (du w) } (.ref s.heap.objs.size) "set" := ⟨_,hS,rfl⟩
   have hli:=PySem.F.called_set.init.lookup
   have hbi:=PySem.F.called_set.init.bind (.ref s.heap.objs.size)
   repeat (any_goals (first | assumption | wp_step))
   refine Jh (JF (R:=wants (fun r s₂=>r=.none/\Q (.ref s.heap.objs.size) s₂) E) PySem.F.called_set.init.plain PySem.F.entry_set_init (hci _ _ _ _ _ hT (init _ fun h' tk _ q=>⟨rfl,q⟩))) fun r₂ s₂ hr₂=>?_
   cases r₂ with
   | error e=>exact hr₂
   | ok fl₂ =>
    cases fl₂ with
    | ret r =>
     obtain⟨rfl,hq⟩:=hr₂
     repeat (any_goals (first | assumption | wp_step))
    | _=>exact hr₂.elim
  | _=>exact hr.elim
theorem zb {Q:Value->Shared->Prop}(q:∀h',eM (aQ prog w) h' s.heap.objs.size []->(∀b o,s.heap.get? b=some o->h'.get? b=some o)->Q (.ref s.heap.objs.size) { s with heap:=h' }):wpAny (model prog w) A (call (.type "set") []) Q E s:=by
 refine uu PySem.F.typeCall_set_0 PySem.F.newCall_set_0 (fun M A E s' Q' hT q'=>check_set_init hT q') fun R fin=>?_
 have hS:(s.heap.push (du w)).get? s.heap.objs.size=some (du w):=Gu _ rfl
 have hT:Shared.TypeIs { s with heap:=s.heap.push (du w) } (.ref s.heap.objs.size) "set" := ⟨_,hS,rfl⟩
 unfold du at hS hT ⊢
 unfold Builtin.«set.__init__» noKeywords
 wp_walk
 exact fin _ s.toks (fun b o e=>Gp _ e) (q _ (mj rfl hS) fun b o e=>Gp _ e)
theorem set_list {l:Addr}{items:Array Value}{ms:List Key}{Q:Value->Shared->Prop}(hh:A.handled=none)(hl:s.heap.IsList l items)(hm:Paired (fun v k=>(aQ prog w).is k v=true) items.toList ms)(hb:items.size+1<scanBound)
  (q:∀h' tk,eM (aQ prog w) h' s.heap.objs.size (cI ms)->(∀b o,s.heap.get? b=some o->h'.get? b=some o)->Q (.ref s.heap.objs.size) { s with heap:=h',toks:=tk }):wpAny (model prog w) A (call (.type "set") [.ref l]) Q E s:=by
 refine uu (PySem.F.typeCall_set_1 _) (PySem.F.newCall_set_1 _) (fun M A E s' Q' hT q'=>check_set_init_1 hT q') fun R fin=>?_
 have hS:(s.heap.push (du w)).get? s.heap.objs.size=some (du w):=Gu _ rfl
 have hT:Shared.TypeIs { s with heap:=s.heap.push (du w) } (.ref s.heap.objs.size) "set" := ⟨_,hS,rfl⟩
 have hz:(s.heap.push (du w)).objs.size=s.heap.objs.size+1:=GP _ _
 obtain⟨ol,hol,hcl,nl,hdl⟩:=id hl
 obtain⟨ocls,odict,odata,oslots⟩:=ol
 simp only at hcl hdl
 subst hcl
 subst hdl
 have hol':(s.heap.push (du w)).get? l=some { cls:=.type "list",dict:=odict,data:=.seq items nl,slots:=oslots }:=Gp _ hol
 have hsls:=PySem.F.sub_list_set
 have hslf:=PySem.F.sub_list_frozenset
 have hne:(Value.type "list" == Value.type "dict")=false:=by decide
 have hl1:(s.heap.push (du w)).IsList l items:=⟨_,hol',rfl,nl,rfl⟩
 have hlS:l<s.heap.objs.size:=Gm hol
 unfold du at hS hT hz hol' hl1 ⊢
 unfold Builtin.«set.__init__» noKeywords Builtin.Frozenset.updateFrom
 generalize hPI:pyIter=PI
 wp_walk
 subst hPI
 refine wpAny_pyIter_list hl1 ?_
 refine IW (wpAny_runValue ?_)
 have hh3:A.in1.in1.in1.handled=none:=by simp [hh]
 refine y9 (L:=s.heap.objs.size) ((Walks.list hh3 _ l ?_ items).toS) ?_ ms ?_ (fun i v hv=>?_) hb (items.size-0) 0 _ (by omega) (GI _) ⟨⟨_,Gu _ rfl,rfl,rfl⟩,(hl1.push _)⟩ ?_ fun s' mv S'=>?_
 ·rw [hz];exact Gs (G6 hlS)
 ·rw [hz]
  intro hmem
  rcases mn hmem with e | e
  ·exact absurd e (Gs (Hf _))
  ·exact absurd e (Hk hlS)
 ·rw [<-hm.length,G7]
 ·have hv':items.toList[i]?=some v:=by rw [HS];exact hv
  exact kH hm hv'
 ·exact mj rfl (Gp _ hS)
 ·obtain⟨h',g',d',tk',os'⟩:=s'
  have eg:g' = s.gens:=mv.gens
  have ed:d' = s.drawn:=mv.drawn
  have eo:os' = s.os:=mv.os
  subst eg;subst ed;subst eo
  have kp:∀b o,s.heap.get? b=some o->h'.get? b=some o:=fun b o e=>mv.heap b o (fun hm=>by
   rcases mn hm with e' | e'
   ·exact absurd e' (Gs (Gm e))
   ·rw [hz] at e';exact absurd e' (Gs (G6 (Gm e)))) (Gp _ (Gp _ e))
  show wpAny _ _ _ _ _ _
  refine IX ?_
  exact IX (fin h' tk' kp (q h' tk' S' kp))
end
end LS
namespace L2
open PySem PySem.Spec PyProof.Rows LS
theorem zc:bootBuiltins "set" = some (.type "set"):=by decide +kernel
theorem Cs {K:Type}[DecidableEq K]{k:K}{ks:List K}:decide (k∈ks)=true↔k∈ks:=decide_eq_true_iff
theorem nu {P:Program}{w:World}{k:Key}{v:Value}(r:RelV (kV k) v):(aQ P w).is k v=true:=by
 cases k with
 | inl i=>obtain⟨t,rfl⟩:=r;exact nO P w i t
 | inr x=>obtain⟨t,rfl⟩:=r;exact nQ P w x t
theorem oh {P:Program}{w:World}:∀{ks:List Key} {us:List Value},Vals (ks.map kV) us->Paired (fun v k=>(aQ P w).is k v=true) us ks
 | [],_,.nil=>.nil
 | k::ks,_,.cons r t=>.cons (nu r) (oh t)
section
variable {X:Cx}
theorem Inv.EV {pins:List (Addr×Obj)}{Gf : List (Option V)}{H:Hp}{s:Shared}{n:Nat}(I:Inv X pins Gf H s):Inv X pins Gf H { s with toks:=n }:=⟨I.ok,I.os,I.bare,I.base,I.loc,I.cell,I.free,I.dz,I.pin,I.aL,I.len⟩
theorem zd:dW X (.type "set") (fun vs H Q=>vs=[]/\∀l,H l=none->Q (.ref l) (upd H l (cK X.prog X.w l []))):=by
 intro pins s Gf H xs us Q I r h
 obtain⟨rfl,q⟩:=h
 cases r
 refine zb fun h' S kp=>?_
 exact⟨.ref s.heap.objs.size,_,I.laid (t':=s.toks) kp (Gj _) (ki S),rfl,q _ I.fresh⟩
theorem ze (hc:X.calm=true):dW X (.type "set") (fun vs H Q=>∃(p:Addr) (ks:List Key),vs=[.ref p]/\aO X.K H p (ks.map kV)/\ks.length+1<scanBound/\∀l,H l=none->Q (.ref l) (upd H l (cK X.prog X.w l (cI ks)))):=by
 intro pins s Gf H xs us Q I r h
 obtain⟨p,ks,rfl,hp,hz,q⟩:=h
 obtain⟨u,rfl,ru⟩:=vals1 r
 cases (show u=Value.ref p from ru)
 obtain⟨its,hv,pl,_⟩:=I.list hp
 have hm:=oh (P:=X.prog) (w:=X.w) hv
 refine LS.set_list (I.ok.hd hc) pl.isList (by simpa using hm) (by have:=hm.length;simp at this ⊢;omega) fun h' tk S kp=>?_
 exact⟨.ref s.heap.objs.size,_,I.laid (t':=tk) kp (Gj _) (ki S),rfl,q _ I.fresh⟩
inductive FC (P:Program) (w:World) (neg:Bool) (x:V) (y:V) (H:Hp) (Q:VK):Prop
 | mk (a ks k:_) (_:y=.ref a) (_:H a=some (cK P w a ks)) (_:x=kV k) (_:∀b:Bool,(b=true↔k∈ks)->Q (.bl (if neg then !b else b)) H)
theorem zf:eG X (compareOp .NotIn) (FC X.prog X.w true):=by
 intro pins s Gf H x y v u Q I rx ry h
 obtain⟨a,ks,k,rfl,ha,rfl,q⟩:=h
 cases ry
 have hk:(aQ X.prog X.w).is k v=true:=nu rx
 have S:=(I.qX ha).setOf
 exact wpAny_notInSet_of hk (ur hk) S ⟨.bl _,H,I.EV,rfl,q _ Cs⟩
def FE (P:Program)(w:World)(r:V->List V->Hp->VK->Prop)(to:TE)(t:TA):TE:=fun Gf H Q=>to Gf H fun x H1=>(∃a ks,x=.ref a/\H1 a=some (cK P w a ks))/\t Gf H1 fun xs H2=>r x xs H2 Q
variable {o e:Expr}{es:List Expr}{to:TE}{t:TA}{name:Str}{apos cpos:Pos}{id:String}{r:V->List V->Hp->VK->Prop}
theorem zg (slot:Slot "set" name id) (hty:typeOf (.builtin id)=pure (.type "method_descriptor")) (hm:vV X id r) (ho:PE X o to) (ha:PA X (e::es) t)
  (hbase:attributeBase o name X.env (eval o X.env)=eval o X.env:=by rfl)
  (hfew:((backTo cpos (starEach (e::es) X.env)).all (fun x=>!x.1)&&(backToKw cpos (keywordEach [] X.env)).all (fun x=>x.1.isSome)
   && decide ((e::es).length+([]:List Keyword).length+(if ([]:List Keyword).isEmpty then 0 else 1)<30))=true:=by rfl)
  (hline:(apos.endLine == cpos.line)=true:=by rfl) (hs:starEach (e::es) X.env=(false,eval e X.env)::starEach es X.env:=by rfl) (hplain:(backTo cpos (starEach es X.env)).any (·.1)=false:=by rfl) :
  PE X (.Call (.Attribute o name apos) (e::es) [] cpos) (FE X.prog X.w r to t):=by
 intro pins s Gf H Q I h
 refine wpAny_Call_method_late hbase hfew hline rfl (bB (ho pins s Gf H _ I h) fun v s1 ⟨x,H1,I1,r1,ty,q1⟩=>?_)
 obtain⟨a,ks,rfl,hset⟩:=ty
 cases (show v=Value.ref a from r1)
 have S:=(I1.qX hset).setOf
 refine⟨"set",id,PySem.F.plainAttrs_set,slot,hty,S.typeIs,S.noDict,?_⟩
 have hA:=ha cpos pins s1 Gf H1 _ I1 q1
 rw [hs] at hA ⊢
 refine Calls.callWith_builtin (by show (false||(backTo cpos (starEach es X.env)).any (·.1))=false;rw [hplain] <;> rfl) (Calls.evalArgs_plain ?_)
 exact bB hA fun us s2 ⟨vs,H2,I2,r2,q2⟩=>hm pins s2 Gf H2 (.ref a) vs (.ref a) us Q I2 rfl r2 q2
inductive EI (P:Program) (w:World) (x:V) (vs:List V) (H:Hp) (Q:VK):Prop
 | mk (a ks k:_) (_:x=.ref a) (_:vs=[kV k]) (_:H a=some (cK P w a ks)) (_:ks.length+1<scanBound) (_:Q .aZ (upd H a (cK P w a (putIn ks k))))
theorem wx:vV X "set.add" (EI X.prog X.w):=by
 intro pins s Gf H x xs v us Q I rx r h
 obtain⟨a,ks,k,rfl,rfl,ha,hz,q⟩:=h
 cases (show v=Value.ref a from rx)
 obtain⟨u,rfl,ru⟩:=vals1 r
 refine AL (nu ru) (I.qX ha) hz fun h' b S'=>?_
 refine⟨.aZ,_,I.write (t':=s.toks+1) (x:=a) (e:=a) (by rw [ha];exact trivial) (.inl rfl) (fun c u' hc hu=>b.extBut c u' hc hu) ?_ (ki S'),rfl,q⟩
 obtain⟨o,_,_,_,So⟩:=S'
 exact⟨o,So.at_⟩
end
structure tI (K:Gh) (mg:Str->Option Value) (aD d0 d1 d2 d3 d4:Addr):Prop where
 tab:Ay K mg "DEED_PARTS" aD [("put",d0),("copy",d1),("add",d2),("read",d3),("tell",d4)]
 q0:KTup K d0 ["name", "number"]
 q1:KTup K d1 ["name", "name"]
 q2:KTup K d2 ["name", "number"]
 q3:KTup K d3 ["name"]
 q4:KTup K d4 ["name"]
def cw:di->List Str
 | .put x _=>[x]
 | .copy x y=>[x,y]
 | .add x _=>[x]
 | .read x=>[x]
 | .tell x=>[x]
def gm:End->List Str
 | .cF _ x _ _ _=>[x]
 | _=>[]
def pNames (p:Piece):List Str:=p.1.flatMap cw++gm p.2
def bp (ps:List Piece):List Str:=ps.flatMap pNames
def kD:di->List Str
 | .put ..=>["name", "number"]
 | .copy ..=>["name", "name"]
 | .add ..=>["name", "number"]
 | .read ..=>["name"]
 | .tell ..=>["name"]
def wD:di->Str
 | .put .. => "put"
 | .copy .. => "copy"
 | .add .. => "add"
 | .read .. => "read"
 | .tell .. => "tell"
theorem xF (d:di):∃xs,ni d=.str (wD d)::xs/\xs.length<=1000/\pick "name" xs (kD d)=(cw d).map V.str:=by
 have h2:¬("number" : Str) = "name" := by decide +kernel
 cases d with
 | put x n=>exact⟨_,rfl,by show 2<=1000;decide,by simp [pick,kD,cw,h2]⟩
 | copy x y=>exact⟨_,rfl,by show 2<=1000;decide,by simp [pick,kD,cw]⟩
 | add x n=>exact⟨_,rfl,by show 2<=1000;decide,by simp [pick,kD,cw,h2]⟩
 | read x=>exact⟨_,rfl,by show 1<=1000;decide,by simp [pick,kD,cw]⟩
 | tell x=>exact⟨_,rfl,by show 1<=1000;decide,by simp [pick,kD,cw]⟩
theorem xG (e:End):∃xs,eJ e=.str (wE e)::xs/\xs.length<=1000/\pick "name" xs (kE e)=(gm e).map V.str:=by
 have h1:¬("piece" : Str) = "name" := by decide +kernel
 have h2:¬("number" : Str) = "name" := by decide +kernel
 cases e with
 | stop=>exact⟨[],rfl,by decide,rfl⟩
 | go p=>exact⟨_,rfl,by show 1<=1000;decide,by simp [pick,kE,gm,h1]⟩
 | cF b x n p q=>exact⟨_,rfl,by show 4<=1000;decide,by simp [pick,kE,gm,h1,h2]⟩
theorem kj {k:Str}{d:Addr}{D:List (Str×Addr)}:KTD.datumAt k ((k,d)::D)=some d:=by
 show (if decide (k=k)=true then some d else KTD.datumAt k D)=some d
 rw [if_pos (decide_eq_true rfl)]
theorem eS {k x:Str}{d:Addr}{D:List (Str×Addr)}{o:Option Addr}(h:¬k=x)(e:KTD.datumAt k D=o):KTD.datumAt k ((x,d)::D)=o:=by
 show (if decide (k=x)=true then some d else KTD.datumAt k D)=o
 rw [if_neg (by rw [decide_eq_false h];decide)]
 exact e
theorem tI.at_ {K:Gh}{mg:Str->Option Value}{aD d0 d1 d2 d3 d4:Addr}(G:tI K mg aD d0 d1 d2 d3 d4)(d:di) :
  ∃s,KTD.datumAt (wD d) [(("put" : Str),d0),("copy",d1),("add",d2),("read",d3),("tell",d4)]=some s/\KTup K s (kD d):=by
 cases d with
 | put x n=>exact⟨d0,kj,G.q0⟩
 | copy x y=>exact⟨d1,eS (show ¬(("copy" : Str) = "put") by decide +kernel) kj,G.q1⟩
 | add x n=>exact⟨d2,eS (show ¬(("add" : Str) = "put") by decide +kernel) (eS (show ¬(("add" : Str) = "copy") by decide +kernel) kj),G.q2⟩
 | read x=>exact⟨d3,eS (show ¬(("read" : Str) = "put") by decide +kernel) (eS (show ¬(("read" : Str) = "copy") by decide +kernel) (eS (show ¬(("read" : Str) = "add") by decide +kernel) kj)),G.q3⟩
 | tell x=>exact⟨d4,eS (show ¬(("tell" : Str) = "put") by decide +kernel) (eS (show ¬(("tell" : Str) = "copy") by decide +kernel) (eS (show ¬(("tell" : Str) = "add") by decide +kernel) (eS (show ¬(("tell" : Str) = "read") by decide +kernel) kj))),G.q4⟩
theorem AM (acc ys:List Str):(ys.map (Sum.inr:Str->Key)).foldl LS.putIn (acc.map Sum.inr)=(ys.foldl LS.putIn acc).map Sum.inr:=by
 induction ys generalizing acc with
 | nil=>rfl
 | cons y ys ih =>
  rw [GK,HI,HI,<-ih]
  congr 1
  unfold LS.putIn
  by_cases h:y∈acc
  ·rw [if_pos h,if_pos (GL.mpr ⟨y,h,rfl⟩)]
  ·rw [if_neg h,if_neg (fun z=>by obtain⟨x,hx,e⟩:=GL.mp z;cases e;exact h hx),GF];rfl
theorem xH (ys:List Str):cI (ys.map (Sum.inr:Str->Key))=(cI ys).map Sum.inr:=AM [] ys
theorem Ct (ys:List Str):(ys.map (Sum.inr:Str->Key)).map kV=ys.map V.str:=by rw [HK];rfl
theorem mw {xs:List Str}{m:Nat}{ps:List Piece}(ok:b8 xs m ps):∀x∈bp ps,x∈xs:=fun x hx=>by
 obtain⟨p,hp,hx⟩:=HE.mp hx
 rcases Gw.mp hx with h | h
 ·obtain⟨d,hd,h⟩:=HE.mp h
  have dk:=(ok.gU p hp).2 d hd
  cases d with
  | put a n=>rw [Gk.mp h];exact dk.1
  | copy a b =>
   rcases Gn.mp h with rfl | h
   ·exact dk.1
   ·rw [Gk.mp h];exact dk.2
  | add a n=>rw [Gk.mp h];exact dk.1
  | read a=>rw [Gk.mp h];exact dk
  | tell a=>rw [Gk.mp h];exact dk
 ·have ek:=ok.ends p hp
  obtain⟨ds,e⟩:=p
  cases e with
  | stop=>cases h
  | go q=>cases h
  | cF b a n q r=>rw [Gk.mp h];exact ek.1
theorem jL {α β : Type}{l:List α}{f:α->List β}{i:Nat}{x:α}(h:l[i]?=some x):(l.take (i+1)).flatMap f=(l.take i).flatMap f++f x:=by
 rw [GN,h,List.flatMap_append];simp
theorem lO {α β : Type}{l:List α}{f:α->List β}(i:Nat):((l.take i).flatMap f).length<=(l.flatMap f).length:=by
 conv=>rhs;rw [<-List.take_append_drop i l,List.flatMap_append,Gq]
 exact HW _ _
inductive si  (vs:List V) (H:Hp) (Q:VK) (_:XK):Prop
 | mk (plv:V) (ps:List Piece) (xs:List Str) (m:Nat) (_:vs=[plv]) (_:aX H plv (eD ps)) (_:b8 xs m ps) (_:xs.length<64) (_:(bp ps).length<=4000) (_:∀(t:Addr) (ss:List Str) (H':Hp),H' t=some (.tup (ss.map V.str))->ss.Perm (cI (bp ps))->sortedS ss=true->ss.length<64->af H H'->Q (.ref t) H')
theorem oU {xs:List Str}{m:Nat}{ps:List Piece}(ok:b8 xs m ps):(cI (bp ps)).length<=xs.length :=
 sub_len (oR _) fun x hx=>mw ok x (jK.mp hx)
end L2
namespace PySem
theorem sS:typeLookup (.type "tuple") "keys" = pure none:=by rw [typeLookup_type,builtinLookup_eq_fast];kernel_rfl
section
variable {prog:Program}{w:World}{A:Around}{E:Value->Shared->Prop}{s:Shared}
theorem sT {a:Addr}{xs:Array Value}{k:Nat}{sl:Array (Option Value)}{name:Str}{u:Tok}{Q:Value->Shared->Prop}(hx:s.heap.get? a=some { cls:=.type "tuple",dict:=none,data:=.seq xs k,slots:=sl })
  (miss:typeLookup (.type "tuple") name=pure none) (plain:(["__module__", "__name__", "__qualname__", "__doc__", "__annotations__"]:List Str).contains name=false) (calm:A.handled=none) (fits:name.length+100<=sizeLine)
  (fin:∀g tk e,Heap.NewExcOf s.heap g e "AttributeError" -> E (.ref e) { s with heap:=g,toks:=tk }):wpAny (model prog w) A (getAttrBy (.ref a) (.str name u) false) Q E s:=by
 obtain⟨hp,gs,dr,tk,os⟩:=s
 have hT:∀tk',(⟨hp,gs,dr,tk',os⟩:Shared).TypeIs (.ref a) "tuple" := fun _=>⟨_,hx,rfl⟩
 have f1:=sub_AttributeError
 have f3:=F.slot_tuple_getattribute.lookup
 have f4:=F.slot_tuple_getattribute.bind (.ref a)
 have f5:=am_tuple_getattr_none
 unfold getAttrBy
 repeat (any_goals (first | exact hT _ | assumption | ((with_reducible show wpAny _ _ (call (Value.builtin "tuple.__getattribute__") _ _) _ _ _);refine call_meets F.slot_tuple_getattribute (hT _) am_entry_tuple_getattribute (F.args_tuple_getattribute_2 _ _) (meets_getattribute_miss_tuple a xs k sl name _ miss plain fits) ⟨hx,calm,fun g t e ne=>?_⟩) | wp_step))
 obtain⟨t',u',there⟩:=ne.there
 show wpAny _ _ (getattributeRaised _ _ _ _ _ _ _) _ _ _
 unfold getattributeRaised
 repeat (any_goals (first | wp_step | assumption))
 exact fin g _ e ne.of
theorem p9 {a:Addr}{xs:Array Value}{k:Nat}{sl:Array (Option Value)}{Q:Option Value->Shared->Prop}(hx:s.heap.get? a=some { cls:=.type "tuple",dict:=none,data:=.seq xs k,slots:=sl })(calm:A.handled=none)
  (fin:∀g tk,(∀b o,s.heap.get? b=some o->g.get? b=some o)->Q none { s with heap:=g,toks:=tk }):wpAny (model prog w) A (getAttr? (.ref a) "keys") Q E s:=by
 unfold getAttr? getAttrBy?
 refine IW (wpAny_mkText ?_)
 refine IW (Jj ?_)
 refine sT (s:={ s with toks:=s.toks+1 }) hx sS (by decide +kernel) calm (by decide +kernel) fun g tk e ne=>?_
 obtain⟨ob,vs,he,hc,_⟩:=ne.there
 have hT:({ s with heap:=g,toks:=tk }:Shared).TypeIs (.ref e) "AttributeError" := ⟨ob,he,hc⟩
 refine IW (Jr hT sub_AttributeError ?_)
 exact IX (fin g tk ne.keeps)
end
end PySem
namespace PySem
theorem km:entryFor table "dict.update.loop" = some Builtin.«dict.update.loop»:=entryFor_of_tree (by kernel_rfl)
theorem fW:plainId "dict.update.loop" = true:=by decide +kernel
section
variable {prog:Program}{w:World}{K:Type}[DecidableEq K]{knd:KeyKind prog w K}{A:Around}{s:Shared}
def uv (knd:KeyKind prog w K)(h:Heap)(q:Addr)(p:K×Value):Prop:=∃key n sl,h.get? q=some { cls:=.type "tuple",dict:=none,data:=.seq #[key,p.2] n,slots:=sl }/\knd.is p.1 key=true
theorem sU {E:Value->Shared->Prop}{q:Addr}{x y:Value}{n:Nat}{sl:Array (Option Value)}{Q:List Value->Shared->Prop}(hq:s.heap.get? q=some { cls:=.type "tuple",dict:=none,data:=.seq #[x,y] n,slots:=sl })
  (fin:Q [x,y] s):wpAny (model prog w) A (Builtin.Dict.pairItems (.ref q)) Q E s:=by
 have hT:s.TypeIs (.ref q) "tuple" := ⟨_,hq,rfl⟩
 unfold Builtin.Dict.pairItems
 refine IW (Jl hT ?_)
 rw [if_pos (by decide)]
 unfold seqItems?
 obtain⟨hp,gs,dr,tk,os⟩:=s
 repeat (any_goals (first | wp_step | assumption))
theorem xI {E:Value->Shared->Prop}{d I ax:Addr}{items:Array Value}{rs:List (K×Value)}{R:Result->Shared->Prop}{h0:Heap}(calm:A.handled=none)(ndI:d≠I)(nda:d≠ax)(nax:ax≠I)(len:rs.length=items.size)(cX:rs.length<=sizeLine)
  (pairs:∀(i:Nat) (p:K×Value),rs[i]?=some p->∃q,items[i]?=some (.ref q)/\q≠d/\q≠I/\uv knd h0 q p)
  (fin:∀(g:Heap) (tk:Nat),g.DictOf knd d (merged [] rs)->(∀b o,b≠d->b≠I->h0.get? b=some o->g.get? b=some o)->R (.ok (.ret .none)) { s with heap:=g,toks:=tk }) :
  ∀(m i:Nat) (h:Heap) (tk:Nat) (t:Tok),rs.length-i=m->i<=rs.length->h.IsTupleIter I ax i->h.IsTuple ax items->h.DictOf knd d (merged [] (rs.take i))->(∀b o,b≠d->b≠I->h0.get? b=some o->h.get? b=some o) ->
   codeAny (model prog w) A (.builtin "dict.update.loop" ⟨[.ref d,.ref I,.int i t,.none],[]⟩) R { s with heap:=h,toks:=tk }:=by
 have W:=Walks.tuple (prog:=prog) (w:=w) (A:=A.in1) calm I ax nax items
 intro m
 induction m with
 | zero =>
  intro i h tk t em hi it ta dd kp
  have ei:i=rs.length:=by omega
  subst ei
  refine Je km ?_
  rw [Hs fW _]
  show wpAny _ A.in1 (pyNext (.ref I) >>= _) _ _ _
  refine IW (W.done { s with heap:=h,toks:=tk } _ _ ⟨by rw [<-len];exact it,ta⟩ fun g tk' kg=>?_)
  show wpAny _ A.in1 (Builtin.Dict.addKeywords d [] >>= fun _=>ret Value.none) _ _ _
  refine IW (IX ?_)
  refine IX (fin g tk' ?_ fun b o n1 n2 e=>kg b o (by simpa using n2) (kp b o n1 n2 e))
  rw [GR] at dd
  obtain⟨ob,es,ep,ho,rest⟩:=dd
  exact⟨ob,es,ep,kg d ob (by simpa using ndI) ho,rest⟩
 | succ m ih =>
  intro i h tk t em hi it ta dd kp
  have hlt:i<rs.length:=by omega
  have hp:rs[i]?=some rs[i]:=by simp [hlt]
  generalize rs[i]=p at hp
  obtain⟨q,hq,nqd,nqI,key,n,sl,hqo,hkey⟩:=pairs i p hp
  refine Je km ?_
  rw [Hs fW _]
  show wpAny _ A.in1 (pyNext (.ref I) >>= _) _ _ _
  refine IW (W.item i { s with heap:=h,toks:=tk } _ _ (by omega) ⟨it,ta⟩ fun v g tk' hv st kg=>?_)
  rw [hq] at hv
  cases hv
  have kp':∀b o,b≠d->b≠I->h0.get? b=some o->g.get? b=some o:=fun b o n1 n2 e=>kg b o (by simpa using n2) (kp b o n1 n2 e)
  refine IW (IZ (IW (wpAny_tryCatch (sU (kp' q _ nqd nqI hqo) ?_))))
  have dd':g.DictOf knd d (merged [] (rs.take i)):=by
   obtain⟨ob,es,ep,ho,rest⟩:=dd
   exact⟨ob,es,ep,kg d ob (by simpa using ndI) ho,rest⟩
  refine IZ (wpAny_dictSet_pairs hkey dd' (fun g2 dd2 same=>?_) ?_)
  ·refine IX ⟨plainId_quiet fW _,?_⟩
   rw [<-merged_take_succ [] rs i p hp] at dd2
   have k2:∀b o,b≠d->g.get? b=some o->g2.get? b=some o:=fun b o nb e=>(same.2 b nb).trans e
   refine ih (i+1) g2 _ _ (by omega) hlt ?_ ?_ dd2 fun b o n1 n2 e=>k2 b o n1 (kp' b o n1 n2 e)
   ·exact st.1.at fun o e=>k2 I o ndI.symm e
   ·exact st.2.at fun o e=>k2 ax o nda.symm e
  ·have e:=merged_length_le ([]:List (K×Value)) (rs.take i)
   rw [G9] at e
   simp only [Ip] at e
   omega
open PySem.Calls in
theorem sV {E:Value->Shared->Prop}{ax:Addr}{items:Array Value}{na:Nat}{sa:Array (Option Value)}{rs:List (K×Value)}{Q:Value->Shared->Prop}(calm:A.handled=none)
  (hx:s.heap.get? ax=some { cls:=.type "tuple",dict:=none,data:=.seq items na,slots:=sa }) (len:rs.length=items.size) (cX:rs.length<=sizeLine)
  (pairs:∀(i:Nat) (p:K×Value),rs[i]?=some p->∃q,items[i]?=some (.ref q)/\uv knd s.heap q p)
  (fin:∀(g:Heap) (tk:Nat),g.DictOf knd s.heap.objs.size (merged [] rs)->(∀b o,s.heap.get? b=some o->g.get? b=some o)->Q (.ref s.heap.objs.size) { s with heap:=g,toks:=tk }) :
  wpAny (model prog w) A (call (.type "dict") [.ref ax]) Q E s:=by
 refine callType_codes (Q₁:=fun ob s1=>ob=.ref s.heap.objs.size/\s1={ s with heap:=s.heap.push { cls:=.type "dict",data:=.dict #[] } }) F.kt_called_dict (F.kt_typeCall_dict_1 _) F.entry_dict_init (kt_code_dict_new _ ⟨rfl,rfl⟩) fun ob s1 e1=>?_
 obtain⟨rfl,rfl⟩:=e1
 have fresh:(s.heap.push { cls:=.type "dict",data:=.dict #[] }).DictOf knd s.heap.objs.size []:=Heap.DictOf.new s.heap
 have hx1:=Gp { cls:=.type "dict",data:=.dict #[] } hx
 refine⟨fresh.typeIs,F.args_dict_init_2 _ _,?_⟩
 have hT:({ s with heap:=s.heap.push { cls:=.type "dict",data:=.dict #[] } }:Shared).TypeIs (.ref ax) "tuple" := ⟨_,hx1,rfl⟩
 unfold Builtin.«dict.__init__»
 refine IW ?_
 unfold Builtin.Dict.selfAndRest
 refine IW (wpAny_notOrdered_dict fresh.typeIs (IX ?_))
 show wpAny _ _ (Builtin.Dict.updateFrom "dict.__init__" s.heap.objs.size (.ref ax) [] .none) _ _ _
 unfold Builtin.Dict.updateFrom
 refine IW (Jl hT ?_)
 rw [if_pos (by decide)]
 refine IW (p9 hx1 calm fun g tk kg=>?_)
 rw [if_pos (show (none:Option Value).isNone=true from rfl)]
 refine IW (Jg ?_)
 have hxg:=kg _ _ hx1
 have hta:g.IsTuple ax items:=⟨_,hxg,rfl,na,rfl⟩
 refine IW (Jv hta ?_)
 have dg:g.DictOf knd s.heap.objs.size []:=by
  obtain⟨ob,es,ep,ho,rest⟩:=fresh
  exact⟨ob,es,ep,kg _ _ ho,rest⟩
 have ltd:s.heap.objs.size<g.objs.size:=by
  obtain⟨ob,es,ep,ho,rest⟩:=dg
  exact Gm ho
 have lta:ax<g.objs.size:=Gm hxg
 have ltx:ax<s.heap.objs.size:=Gm hx
 have kg':∀b o,s.heap.get? b=some o->(g.push { cls:=.type "tuple_iterator",data:=.fields #[.ref ax,.int 0 0] }).get? b=some o:=fun b o e=>Gp _ (kg b o (Gp _ e))
 refine IX ⟨plainId_quiet fW _,?_⟩
 refine xI (E:=E) (knd:=knd) (s:=s) (A:=A.in1) (items:=items) (rs:=rs) (h0:=g.push { cls:=.type "tuple_iterator",data:=.fields #[.ref ax,.int 0 0] }) calm (Gs ltd) (Hk ltx) (Gs lta) len cX (fun i p hp=>?_) (fun g2 tk2 dd2 k2=>⟨rfl,fin g2 tk2 dd2 fun b o e=>k2 b o (Gs (Gm e)) (Gs (HV (Gm e) ltd)) (kg' b o e)⟩) rs.length 0 _ _ _ (Nat.sub_zero _) (GI _) ⟨_,Gu _ rfl,rfl,rfl⟩ (hta.push _) (dg.push _) fun b o _ _ e=>e
 obtain⟨q,hq,key,n,sl,hqo,hkey⟩:=pairs i p hp
 have hql:=Gm hqo
 exact⟨q,hq,Gs hql,Gs (HV hql ltd),key,n,sl,kg' q _ hqo,hkey⟩
end
end PySem
namespace L2
open PySem PySem.Spec PyProof.Rows
theorem BF:∀(kvs:List (Key×V)) (P:Nat->Key×Value->Prop),(∀(i:Nat) (k:Key) (v:V),kvs[i]?=some (k,v)->∃u,RelV v u/\P i (k,u))->∃rs:List (Key×Value),KV kvs rs/\∀(i:Nat) (p:Key×Value),rs[i]?=some p->P i p
 | [],_,_=>⟨[],.nil,fun i p h=>by simp at h⟩
 | (k,v)::r,P,h=>by
  obtain⟨u,ru,hu⟩:=h 0 k v rfl
  obtain⟨rs,kr,hr⟩:=BF r (fun i=>P (i+1)) fun i k' v' e=>h (i+1) k' v' (by simpa using e)
  refine⟨(k,u)::rs,.cons ⟨rfl,ru⟩ kr,fun i p e=>?_⟩
  cases i with
  | zero=>cases (Gy.inj e);exact hu
  | succ i=>exact hr i p (by simpa using e)
theorem uw:∀{xs:List V} {us:List Value} {j:Nat} {x:V},Vals xs us->xs[j]?=some x->∃u,us[j]?=some u/\RelV x u
 | _,_,_,_,.nil,e=>by simp at e
 | _,_,0,_,.cons r _,e=>by
  cases (Gy.inj e)
  exact⟨_,rfl,r⟩
 | _,_,j+1,x,.cons _ t,e=>by
  obtain⟨u,h1,h2⟩:=uw (j:=j) (x:=x) t (by simpa using e)
  exact⟨u,by simpa using h1,h2⟩
section
variable {X:Cx}
theorem gX (hc:X.calm=true):dW X (.type "dict") (fun vs H Q=>∃(a:Addr) (xs:List V) (kvs:List (Key×V)),vs=[.ref a]/\H a=some (.tup xs)/\xs.length=kvs.length /\
  (∀(i:Nat) (k:Key) (v:V),kvs[i]?=some (k,v)->∃q,xs[i]?=some (.ref q)/\H q=some (.tup [kV k,v]))/\(kvs.map (·.1)).Nodup/\∀d,H d=none->Q (.ref d) (upd H d (.dK kvs))):=by
 intro pins s Gf H vs us Q I r h
 obtain⟨a,xs,kvs,rfl,ha,hl,hp,nd,q⟩:=h
 obtain⟨u,rfl,ru⟩:=vals1 r
 cases (show u=Value.ref a from ru)
 obtain⟨hz,its,rv,⟨c,dct,dat,sl⟩,h1,h2,n,h3,h4⟩:=(show bM X.prog X.w H s.heap a (.tup xs) from I.aL a _ ha)
 dsimp only at h2 h3 h4
 subst h2 h3 h4
 have hil:its.length=kvs.length:=by rw [<-rv.length];exact hl
 obtain⟨rs,rel,prs⟩:=BF kvs (fun i p=>∃q,its.toArray[i]?=some (.ref q)/\uv (aQ X.prog X.w) s.heap q p) fun i k v e=>by
  obtain⟨q,e1,e2⟩:=hp i k v e
  obtain⟨_,its2,rv2,⟨c2,dct2,dat2,sl2⟩,g1,g2,n2,g3,g4⟩:=(show bM X.prog X.w H s.heap q (.tup [kV k,v]) from I.aL q _ e2)
  dsimp only at g2 g3 g4
  subst g2 g3 g4
  obtain⟨key,u2,rfl,rk,ru2⟩:=vals2 rv2
  refine⟨u2,ru2,q,?_,key,n2,sl2,g1,kC rk⟩
  obtain⟨w',hw,rw'⟩:=uw rv e1
  cases (show w' = Value.ref q from rw')
  simpa using hw
 have hkl:kvs.length<=sizeLine:=by rw [<-hl];exact hz
 have ndr:(rs.map (·.1)).Nodup:=by rw [<-rel.keys];exact nd
 refine sV (knd:=aQ X.prog X.w) (rs:=rs) (I.ok.hd hc) h1 (by rw [<-rel.length,<-hil];simp) (by rw [<-rel.length];exact hkl) prs fun g tk dd kg=>?_
 rw [merged_nil_of_nodup rs ndr] at dd
 exact⟨.ref s.heap.objs.size,_,I.laid (a:=s.heap.objs.size) (o:=.dK kvs) (t':=tk) kg (Gj _) (mh hkl (beq_eq_false_iff_ne.mpr (Ne.symm (Gs I.big))) rel dd),rfl,q _ (I.aL.fresh (Gj _))⟩
end
def qc (a b:Str):Prop:=a.cps.toList<=b.cps.toList
theorem zh {a b c:Str}(h:qc a b)(g:qc b c):qc a c:=List.le_trans h g
theorem AN {a b:Str}(h:qc a b)(g:qc b a):a=b:=by
 have e:a.cps.toList=b.cps.toList:=List.le_antisymm h g
 have e2:a.cps=b.cps:=by rw [<-Array.toArray_toList (xs:=a.cps),e,Array.toArray_toList]
 cases a
 cases b
 cases e2
 rfl
theorem sj:∀(l:List Str) (p:Str),risingS p l=true->(p::l).Pairwise qc
 | [],p,_=>by simp
 | x::r,p,h=>by
  have h':(!ltCps x.cps.toList p.cps.toList&&risingS x r)=true:=h
  rw [G3,Bool.not_eq_true'] at h'
  have h1:qc p x:=by
   have:=h'.1
   rw [ltCps_eq] at this
   exact of_decide_eq_false this
  have ih:=sj r x h'.2
  refine Hx.cons (fun y hy=>?_) ih
  rcases Gn.mp hy with e | hy
  ·rw [e];exact h1
  ·exact zh h1 ((Iz.mp ih).1 y hy)
theorem mx {l:List Str}(h:sortedS l=true):l.Pairwise qc:=by
 cases l with
 | nil=>exact Hx.nil
 | cons x r=>exact sj r x h
structure jq (ss:List Str):Prop where
 pw:ss.Pairwise qc
 nd:ss.Nodup
theorem jq.tail {x:Str}{r:List Str}(h:jq (x::r)):jq r:=⟨(Iz.mp h.pw).2,(Ho.mp h.nd).2⟩
theorem jq.unique:∀{l m:List Str},jq l->jq m->(∀x,x∈l↔x∈m)->l=m
 | [],[],_,_,_=>rfl
 | [],b::m,_,_,h=>absurd ((h b).mpr (Gx ..)) (by simp)
 | a::l,[],_,_,h=>absurd ((h a).mp (Gx ..)) (by simp)
 | a::l,b::m,hl,hm,h=>by
  have e:a=b:=by
   rcases Gn.mp ((h a).mp (Gx ..)) with e | h1
   ·exact e
   ·rcases Gn.mp ((h b).mpr (Gx ..)) with e | h2
    ·exact e.symm
    ·exact AN ((Iz.mp hl.pw).1 b h2) ((Iz.mp hm.pw).1 a h1)
  subst e
  have na:=(Ho.mp hl.nd).1
  have nb:=(Ho.mp hm.nd).1
  rw [jq.unique hl.tail hm.tail fun x=>⟨fun hx=>?_,fun hx=>?_⟩]
  ·rcases Gn.mp ((h x).mp (Gv _ hx)) with e | h1
   ·exact absurd (by rw [<-e];exact hx) na
   ·exact h1
  ·rcases Gn.mp ((h x).mpr (Gv _ hx)) with e | h1
   ·exact absurd (by rw [<-e];exact hx) nb
   ·exact h1
theorem jq.filter {l:List Str}(h:jq l)(p:Str->Bool):jq (l.filter p):=⟨h.pw.filter p,h.nd.filter p⟩
abbrev Sx:=Option Int×Option Int
def cQ:Sx:=(none,none)
structure iU (K:Gh) (mg:Str->Option Value) (aA:Addr):Prop where
 sf:mg "ALL" = some (.ref aA)
 at_:∃dc n sl,K.lookup aA=some ⟨.type "tuple",dc,.seq #[.none,.none] n,sl⟩
theorem iU.sq {K:Gh}{mg:Str->Option Value}{aA:Addr}(h:iU K mg aA)(H:Hp):av K H aA [.aZ,.aZ]:=by
 obtain⟨dc,n,sl,e⟩:=h.at_
 exact .inr ⟨_,#[.none,.none],n,e,rfl,rfl,by decide,.cons rfl (.cons rfl .nil)⟩
def SH (H:Hp)(v:V)(s:Sx):Prop:=∃q,v=.ref q/\H q=some (.tup [vO s.1,vO s.2])
def SV (aA:Addr)(H:Hp)(v:V)(s:Sx):Prop:=SH H v s\/(v=.ref aA/\s=cQ)
def dS (s:Sx):PyData:=.tuple [dO s.1,dO s.2]
theorem SH.rd {H:Hp}{v:V}{s:Sx}(h:SH H v s):aX H v (dS s):=by
 obtain⟨q,rfl,e⟩:=h
 exact .tup e (.cons (DL _) (.cons (DL _) .nil))
theorem SH.aK {H H':Hp}{v:V}{s:Sx}(h:SH H v s)(k:∀p xs,H p=some (.tup xs)->H' p=some (.tup xs)):SH H' v s:=by
 obtain⟨q,e,h⟩:=h
 exact⟨q,e,k _ _ h⟩
theorem SV.aK {aA:Addr}{H H':Hp}{v:V}{s:Sx}(h:SV aA H v s)(k:∀p xs,H p=some (.tup xs)->H' p=some (.tup xs)):SV aA H' v s:=h.elim (fun h=>.inl (h.aK k)) .inr
theorem SV.sq {K:Gh}{mg:Str->Option Value}{aA:Addr}{H:Hp}{v:V}{s:Sx}(g:iU K mg aA)(h:SV aA H v s):∃q,v=.ref q/\av K H q [vO s.1,vO s.2]:=by
 rcases h with ⟨q,e,h⟩ | ⟨e,rfl⟩
 ·exact⟨q,e,av.of h⟩
 ·exact⟨aA,e,g.sq H⟩
theorem wy {H:Hp}{v:V}{o:Option Int}(h:aX H v (dO o)):v=vO o:=by
 cases o with
 | none=>cases h;rfl
 | some i=>exact h.int_inv
structure Tb (aA:Addr) (H:Hp) (kvs:List (Key×V)) (ks:List Str) (T:Str->Sx):Prop where
 keys:kvs.map (·.1)=ks.map Sum.inr
 nd:ks.Nodup
 val:∀x:Str,(b5 kvs (Sum.inr x)=none/\T x=cQ/\¬x∈ks)\/(∃v,b5 kvs (Sum.inr x)=some v/\SV aA H v (T x)/\x∈ks)
def cS (T:Str->Sx)(x:Str)(s:Sx):Str->Sx:=fun y=>if y=x then s else T y
theorem Tb.aK {aA:Addr}{H H':Hp}{kvs:List (Key×V)}{ks:List Str}{T:Str->Sx}(h:Tb aA H kvs ks T)(k:∀p xs,H p=some (.tup xs)->H' p=some (.tup xs)):Tb aA H' kvs ks T :=
 ⟨h.keys,h.nd,fun x=>(h.val x).elim .inl fun ⟨v,e,s,m⟩=>.inr ⟨v,e,s.aK k,m⟩⟩
theorem Tb.put {aA:Addr}{H:Hp}{kvs:List (Key×V)}{ks:List Str}{T:Str->Sx}(h:Tb aA H kvs ks T){v:V}{s:Sx}(x:Str)(hv:SV aA H v s) :
  ∃ks',Tb aA H (putK kvs (Sum.inr x) v) ks' (cS T x s)/\ks'.length<=ks.length+1/\∀y,y∈ks'↔y∈ks\/y=x:=by
 have vals:∀(ks':List Str),(∀y,y∈ks'↔y∈ks\/y=x)->∀y:Str,(b5 (putK kvs (Sum.inr x) v) (Sum.inr y)=none/\cS T x s y=cQ/\¬y∈ks')\/(∃u,b5 (putK kvs (Sum.inr x) v) (Sum.inr y)=some u/\SV aA H u (cS T x s y)/\y∈ks'):=by
  intro ks' hk y
  rw [Aj]
  unfold cS
  by_cases e:y=x
  ·subst e
   rw [if_pos rfl,if_pos rfl]
   exact .inr ⟨v,rfl,hv,(hk y).mpr (.inr rfl)⟩
  ·rw [if_neg (fun z=>e (Sum.inr.inj z)),if_neg e]
   rcases h.val y with ⟨a,b,c⟩ | ⟨u,a,b,c⟩
   ·exact .inl ⟨a,b,fun z=>((hk y).mp z).elim c e⟩
   ·exact .inr ⟨u,a,b,(hk y).mpr (.inl c)⟩
 rcases mi (kvs:=kvs) (k:=(Sum.inr x:Key)) (v:=v) with ⟨e1,hm⟩ | ⟨e1,hn⟩
 ·have hx:x∈ks:=by
   rw [h.keys] at hm
   obtain⟨y,hy,e⟩:=GL.mp hm
   cases e
   exact hy
  have hk:∀y,y∈ks↔y∈ks\/y=x:=fun y=>⟨.inl,fun z=>z.elim id fun e=>by rw [e];exact hx⟩
  exact⟨ks,⟨by rw [e1];exact h.keys,h.nd,vals ks hk⟩,Hn _,hk⟩
 ·have hx:¬x∈ks:=fun z=>hn (by rw [h.keys];exact GL.mpr ⟨x,z,rfl⟩)
  have hk:∀y,y∈ks++[x]↔y∈ks\/y=x:=fun y=>by simp
  refine⟨ks++[x],⟨by rw [e1,h.keys,GF];rfl,?_,vals _ hk⟩,by simp,hk⟩
  rw [Hz]
  refine⟨h.nd,by simp,fun a ha b hb=>?_⟩
  rw [Gk] at hb
  subst hb
  exact fun z=>hx (by rw [<-z];exact ha)
def dF (T:Str->Sx)(x:Str):PyData:=.tuple [.str x,dS (T x)]
def FV (H:Hp)(v:V)(T:Str->Sx):Prop:=∃(p:Addr) (xs:List V) (ss:List Str),v=.ref p/\H p=some (.tup xs)/\jq ss/\(∀x,x∈ss↔T x≠cQ)/\bu H xs (ss.map (dF T))
def fM (T:Str->Sx)(ss:List Str):PyData:=.tuple (ss.map (dF T))
theorem iG (T:Str->Sx):∀ss:List Str,b4 (ss.map (dF T))=true
 | []=>rfl
 | x::ss=>by
  show (cq (dF T x)&&b4 (ss.map (dF T)))=true
  rw [iG T ss]
  show ((true&&((cq (dO (T x).1)&&(cq (dO (T x).2)&&true))&&true))&&true)=true
  cases (T x).1 <;> cases (T x).2 <;> rfl
theorem FV.aK {H H':Hp}{v:V}{T:Str->Sx}(h:FV H v T)(k:∀p xs,H p=some (.tup xs)->H' p=some (.tup xs)):FV H' v T:=by
 obtain⟨p,xs,ss,e,hp,hs,hm,r⟩:=h
 exact⟨p,xs,ss,e,k _ _ hp,hs,hm,r.aK k (iG T ss)⟩
theorem FV.same {H H':Hp}{v:V}{T:Str->Sx}(h:FV H v T)(s:af H H'):FV H' v T:=h.aK fun p xs e=>s _ _ e
theorem FV.tb {H:Hp}{xs:List V}{T:Str->Sx}{ss:List Str}(aA:Addr)(hs:jq ss)(hm:∀x,x∈ss↔T x≠cQ)(r:bu H xs (ss.map (dF T))) :
  ∃kvs:List (Key×V),xs.length=kvs.length/\(∀(i:Nat) (k:Key) (v:V),kvs[i]?=some (k,v)->∃q,xs[i]?=some (.ref q)/\H q=some (.tup [kV k,v]))/\(kvs.map (·.1)).Nodup/\Tb aA H kvs ss T:=by
 have go:∀(ss:List Str) (xs:List V),bu H xs (ss.map (dF T))->∃kvs:List (Key×V),xs.length=kvs.length/\(∀(i:Nat) (k:Key) (v:V),kvs[i]?=some (k,v)->∃q,xs[i]?=some (.ref q)/\H q=some (.tup [kV k,v])) /\
   kvs.map (·.1)=ss.map Sum.inr/\∀x:Str,(b5 kvs (Sum.inr x)=none/\¬x∈ss)\/(∃v,b5 kvs (Sum.inr x)=some v/\SH H v (T x)/\x∈ss):=by
  intro ss
  induction ss with
  | nil =>
   intro xs r
   have z:=bu.nil_inv r
   subst z
   exact⟨[],rfl,fun i k v e=>by simp at e,rfl,fun x=>.inl ⟨rfl,by simp⟩⟩
  | cons y ss ih =>
   intro xs r
   obtain⟨x1,t1,rfl,h1,r⟩:=bu.cons_inv r
   obtain⟨kvs,l1,l2,l3,l4⟩:=ih t1 r
   obtain⟨q,zs,rfl,hq,rz⟩:=aX.bP h1
   obtain⟨z1,t2,rfl,g1,rz⟩:=rz.cons_inv
   obtain⟨z2,t3,rfl,g2,rz⟩:=rz.cons_inv
   have z:=rz.nil_inv
   subst z
   obtain⟨q2,ws,rfl,hq2,rw2⟩:=aX.bP g2
   obtain⟨w1,t4,rfl,f1,rw2⟩:=rw2.cons_inv
   obtain⟨w2,t5,rfl,f2,rw2⟩:=rw2.cons_inv
   have z:=rw2.nil_inv
   subst z
   have e1:w1=vO (T y).1:=wy f1
   have e2:w2=vO (T y).2:=wy f2
   subst e1 e2
   rw [g1.str_inv] at hq
   refine⟨(Sum.inr y,.ref q2)::kvs,by simp [l1],fun i k v e=>?_,by simp [l3],fun x=>?_⟩
   ·cases i with
    | zero=>cases (Gy.inj e);exact⟨q,rfl,hq⟩
    | succ i =>
     obtain⟨q',a,b⟩:=l2 i k v (by simpa using e)
     exact⟨q',by simpa using a,b⟩
   ·by_cases e:x=y
    ·subst e
     exact .inr ⟨_,dC rfl,⟨q2,rfl,hq2⟩,Gx ..⟩
    ·rw [dm (fun z=>e (Sum.inr.inj z).symm)]
     rcases l4 x with ⟨a,b⟩ | ⟨v,a,b,c⟩
     ·exact .inl ⟨a,fun z=>(Gn.mp z).elim e b⟩
     ·exact .inr ⟨v,a,b,Gv _ c⟩
 obtain⟨kvs,l1,l2,l3,l4⟩:=go ss xs r
 refine⟨kvs,l1,l2,?_,⟨l3,hs.nd,fun x=>?_⟩⟩
 ·rw [l3]
  exact Hx.map _ (fun a b n z=>n (Sum.inr.inj z)) hs.nd
 ·rcases l4 x with ⟨a,b⟩ | ⟨v,a,b,c⟩
  ·refine .inl ⟨a,?_,b⟩
   exact Classical.byContradiction fun z=>b ((hm x).mpr z)
  ·exact .inr ⟨v,a,.inl b,c⟩
theorem qZ (s:Sx):PyData.eqv (dS s) (.tuple [.none,.none])=decide (s=cQ):=by
 obtain⟨a,b⟩:=s
 cases a <;> cases b <;> rfl
theorem xJ (s:Sx):(dS s).canLay0=true:=by
 obtain⟨a,b⟩:=s
 cases a <;> cases b <;> rfl
theorem BG (s:Sx):(dS s).depth<=60:=by
 obtain⟨a,b⟩:=s
 cases a <;> cases b <;> (show (1:Nat)<=60;decide)
section
variable {X:Cx}
theorem zi {pins:List (Addr×Obj)}{Gf : St}{H:Hp}{s:Shared}{aA:Addr}(I:Inv X pins Gf H s)(g:iU X.K X.mg aA):∃as,Reads s.heap (.ref aA) (.tuple [.none,.none]) as:=by
 obtain⟨dc,n,sl,e⟩:=g.at_
 exact⟨_,.tuple (I.en aA _ e) rfl rfl (.cons .none (.cons .none .nil))⟩
theorem DX {aA:Addr}(hu:X.A.units+64<cLine)(g:iU X.K X.mg aA):eG X (compareOp .NotEq) (fun x y H Q=>∃s,SV aA H x s/\y=.ref aA/\Q (.bl (!decide (s=cQ))) H):=by
 intro pins sh Gf H x y v u Q I rx ry h
 obtain⟨s,hs,rfl,q⟩:=h
 cases (show u=Value.ref aA from ry)
 obtain⟨bs,rb⟩:=zi I g
 rcases hs with hs | ⟨rfl,rfl⟩
 ·obtain⟨as,ra⟩:=hs.rd.reads I.aL rx
  refine PySem.SeqAt.neOverData X.prog X.w X.A X.xe sh v _ _ _ as bs _ ra rb (xJ s) rfl (by have:=BG s;omega) ⟨.bl _,H,I,?_,q⟩
  show _=Value.bool (!decide (s=cQ))
  rw [qZ]
 ·cases (show v=Value.ref aA from rx)
  exact PySem.SeqAt.neOverData X.prog X.w X.A X.xe sh _ _ _ _ bs bs _ rb rb rfl rfl (by show X.A.units+1<cLine;omega) ⟨.bl _,H,I,rfl,q⟩
end
inductive my (aA:Addr) (vs:List V) (H:Hp) (Q:VK) (_:XK):Prop
 | mk (d:Addr) (kvs:List (Key×V)) (ks:List Str) (T:Str->Sx) (_:vs=[.ref d]) (_:H d=some (.dK kvs)) (_:Tb aA H kvs ks T) (_:ks.length<64) (_:∀v H',FV H' v T->af H H'->Q v H')
def jr (o:Option Int)(n:Int):Option Int:=o.map (· + n)
def EW (s:Sx)(n:Int):Sx:=(jr s.1 n,jr s.2 n)
def oV (T:Str->Sx):di->Sx
 | .put _ n=>(some n,some n)
 | .copy _ y=>T y
 | .add x n=>EW (T x) n
 | .read _=>cQ
 | .tell x=>T x
def xK (T:Str->Sx)(d:di):Str->Sx:=cS T (fi d) (oV T d)
def bD (T:Str->Sx):List di->(Str->Sx):=fun ds=>ds.foldl xK T
inductive wz (K:Gh) (vs:List V) (H:Hp) (Q:VK) (_:XK):Prop
 | mk (q:Addr) (s:Sx) (n:Int) (_:vs=[.ref q,.int n]) (_:av K H q [vO s.1,vO s.2]) (_:∀v H',SH H' v (EW s n)->af H H'->Q v H')
inductive qd (aA:Addr) (vs:List V) (H:Hp) (Q:VK) (_:XK):Prop
 | mk (d q:Addr) (kvs:List (Key×V)) (ks:List Str) (T:Str->Sx) (dd:di) (_:vs=[.ref d,.ref q]) (_:H d=some (.dK kvs)) (_:Tb aA H kvs ks T) (_:H q=some (.tup (ni dd))) (_:∀v H',SV aA H' v (oV T dd)->af H H'->Q v H')
inductive ux  (vs:List V) (H:Hp) (Q:VK) (_:XK):Prop
 | mk (fv:V) (p:Addr) (ws:List V) (ds:List di) (T:Str->Sx) (m:Nat) (_:vs=[fv,.ref p]) (_:FV H fv T) (_:H p=some (.tup ws)) (_:bu H ws (ds.map dB)) (_:(∀ss:List Str,(∀x∈ss,T x≠cQ)->ss.Nodup->ss.length<=m)) (_:m+ds.length<64) (_:∀v H',FV H' v (bD T ds)->af H H'->Q v H')
theorem Tb.getD {aA:Addr}{H:Hp}{kvs:List (Key×V)}{ks:List Str}{T:Str->Sx}(h:Tb aA H kvs ks T)(x:Str):∃v,(b5 kvs (Sum.inr x)).getD (.ref aA)=v/\SV aA H v (T x):=by
 rcases h.val x with ⟨a,b,_⟩ | ⟨v,a,b,_⟩
 ·exact⟨_,by rw [a];rfl,.inr ⟨rfl,b⟩⟩
 ·exact⟨v,by rw [a];rfl,b⟩
section
variable {C D:Addr}{H0 H H1:Hp}{w0 w1:WA}{plv:V}{x0 x1 x':DO}
end
mutual
def eT:PyData->Bool
 | .none=>true
 | .int _=>true
 | .str _=>true
 | .tuple xs=>dY xs
 | _=>false
def dY:List PyData->Bool
 | []=>true
 | x::xs=>eT x&&dY xs
end
mutual
def tJ:PyData->Nat
 | .tuple xs=>mz xs+1
 | _=>1
def mz:List PyData->Nat
 | []=>0
 | x::xs=>tJ x+mz xs
end
noncomputable instance Ej:DecidableEq PyData:=fun a b=>Classical.propDecidable (a=b)
mutual
theorem rg:∀{a b:PyData},eT a=true->eT b=true->(PyData.eqv a b=true↔a=b)
 | .none,.none,_,_=>⟨fun _=>rfl,fun _=>rfl⟩
 | .int i,.int j,_,_=>by show ((i == j)=true)↔_;rw [beq_iff_eq];exact⟨fun h=>by rw [h],fun h=>by injection h⟩
 | .str x,.str y,_,_=>by show ((x == y)=true)↔_;rw [beq_iff_eq];exact⟨fun h=>by rw [h],fun h=>by injection h⟩
 | .tuple xs,.tuple ys,ha,hb=>by
  show (PyData.eqvAll xs ys=true)↔_
  rw [qf (show dY xs=true from ha) (show dY ys=true from hb)]
  exact⟨fun h=>by rw [h],fun h=>by injection h⟩
 | .none,.int _,_,_ | .none,.str _,_,_ | .none,.tuple _,_,_ | .int _,.none,_,_ | .int _,.str _,_,_ | .int _,.tuple _,_,_
 | .str _,.none,_,_ | .str _,.int _,_,_ | .str _,.tuple _,_,_ | .tuple _,.none,_,_ | .tuple _,.int _,_,_ | .tuple _,.str _,_,_=>⟨fun h=>(by cases h),fun h=>(by cases h)⟩
 | .bool _,_,h,_ | .list _,_,h,_ | .dict _,_,h,_=>by cases h
 | .none,.bool _,_,h | .none,.list _,_,h | .none,.dict _,_,h | .int _,.bool _,_,h | .int _,.list _,_,h | .int _,.dict _,_,h
 | .str _,.bool _,_,h | .str _,.list _,_,h | .str _,.dict _,_,h | .tuple _,.bool _,_,h | .tuple _,.list _,_,h | .tuple _,.dict _,_,h=>by cases h
theorem qf:∀{a b:List PyData},dY a=true->dY b=true->(PyData.eqvAll a b=true↔a=b)
 | [],[],_,_=>⟨fun _=>rfl,fun _=>rfl⟩
 | x::xs,y::ys,ha,hb=>by
  have ha:(eT x&&dY xs)=true:=ha
  have hb:(eT y&&dY ys)=true:=hb
  rw [G3] at ha hb
  show ((PyData.eqv x y&&PyData.eqvAll xs ys)=true)↔_
  rw [G3,rg ha.1 hb.1,qf ha.2 hb.2]
  exact⟨fun ⟨h1,h2⟩=>by rw [h1,h2],fun h=>by injection h with h1 h2;exact⟨h1,h2⟩⟩
 | [],_::_,_,_ | _::_,[],_,_=>⟨fun h=>(by cases h),fun h=>(by cases h)⟩
end
mutual
theorem mB {h:Heap}:∀{v:Value} {a b:PyData} {as bs:List Addr},Reads h v a as->Reads h v b bs->eT a=true->eT b=true->a=b
 | _,_,_,_,_,.none,.none,_,_=>rfl
 | _,_,_,_,_,.int i t,.int _ _,_,_=>rfl
 | _,_,_,_,_,.str x t,.str _ _,_,_=>rfl
 | _,_,_,_,_,.tuple e1 c1 d1 r1,.tuple e2 c2 d2 r2,ha,hb=>by
  rw [e1] at e2
  cases e2
  rw [d1] at d2
  cases d2
  rw [mC r1 r2 ha hb]
 | _,_,_,_,_,.tuple e1 c1 d1 r1,.list e2 c2 d2 r2,_,hb=>by cases hb
 | _,_,_,_,_,.tuple e1 c1 d1 r1,.dict e2 c2 d2 r2 r3,_,hb=>by cases hb
 | _,_,_,_,_,.bool _,_,ha,_=>by cases ha
 | _,_,_,_,_,.list ..,_,ha,_=>by cases ha
 | _,_,_,_,_,.dict ..,_,ha,_=>by cases ha
theorem mC {h:Heap}:∀{vs:List Value} {a b:List PyData} {as bs:List Addr},ReadsAll h vs a as->ReadsAll h vs b bs->dY a=true->dY b=true->a=b
 | _,_,_,_,_,.nil,.nil,_,_=>rfl
 | _,_,_,_,_,.cons (d:=x) (ds:=xs) r1 t1,.cons (d:=y) (ds:=ys) r2 t2,ha,hb=>by
  have ha:(eT x&&dY xs)=true:=ha
  have hb:(eT y&&dY ys)=true:=hb
  rw [G3] at ha hb
  rw [mB r1 r2 ha.1 hb.1,mC t1 t2 ha.2 hb.2]
end
mutual
theorem qg {h h':Heap}(k:∀a o n vs,h.get? a=some o->o.data=.seq vs n->h'.get? a=some o):∀{v:Value} {a:PyData} {as:List Addr},Reads h v a as->eT a=true->Reads h' v a as
 | _,_,_,.none,_=>.none
 | _,_,_,.int i t,_=>.int i t
 | _,_,_,.str x t,_=>.str x t
 | _,_,_,.tuple e1 c1 d1 r1,ha=>.tuple (k _ _ _ _ e1 d1) c1 d1 (lP k r1 ha)
 | _,_,_,.bool _,ha=>by cases ha
 | _,_,_,.list ..,ha=>by cases ha
 | _,_,_,.dict ..,ha=>by cases ha
theorem lP {h h':Heap}(k:∀a o n vs,h.get? a=some o->o.data=.seq vs n->h'.get? a=some o):∀{vs:List Value} {a:List PyData} {as:List Addr},ReadsAll h vs a as->dY a=true->ReadsAll h' vs a as
 | _,_,_,.nil,_=>.nil
 | _,_,_,.cons (d:=x) (ds:=xs) r1 t1,ha=>by
  have ha:(eT x&&dY xs)=true:=ha
  rw [G3] at ha
  exact .cons (qg k r1 ha.1) (lP k t1 ha.2)
end
section
variable {prog:Program}{w:World}{E:Value->Shared->Prop}
abbrev BH (w:World)(d:PyData):Int:=PySem.W.hashW w.params (PySem.W.ofPy d)
mutual
theorem qh:∀(d:PyData) (v:Value) (as:List Addr) (A:Around) (s:Shared) (Q:Int->Shared->Prop),eT d=true->Reads s.heap v d as->A.units+d.depth<cLine ->
  Q (BH w d) { s with toks:=s.toks+tJ d }->wpAny (model prog w) A (pyHash v) Q E s
 | .none,_,_,A,s,Q,_,x,hu,h=>by
  cases x
  exact PySem.W.pyHash_slot (T := "NoneType") rfl F.slot_NoneType_hash F.entry_NoneType_hash (F.args_NoneType_hash_1 _) (beq_builtin_none _) (.inr (by omega)) (IW (IX (IW (wpAny_mkInt (IX ⟨_,_,rfl,h⟩)))))
 | .int i,_,_,A,s,Q,_,x,_,h=>by
  cases x
  refine wpAny_pyHash_int ?_
  have e:=PySem.W.hashW_int w.params i
  rw [<-e]
  exact h
 | .str y,_,_,A,s,Q,_,x,_,h=>by cases x;exact JB h
 | .tuple xs,_,_,A,s,Q,hk,x,hu,h=>by
  cases x with
  | @tuple a o vs n _ _ hg hc hd hw =>
   refine PySem.W.pyHash_slot (T := "tuple") ⟨_,hg,hc⟩ F.slot_tuple_hash F.entry_tuple_hash (F.args_tuple_hash_1 _) (beq_builtin_none _) (.inr (by omega)) ?_
   show wpAny _ _ (Builtin.Tuple.tupleItemsOf (.ref a) >>= _) _ _ s
   refine IW (wpAny_tupleItemsOf hg hd ?_)
   refine IW ?_
   rw [<-Array.forIn_toList]
   refine sm xs vs.toList _ A.in1 s #[] _ hk hw (by have:(PyData.tuple xs).depth=PyData.depthAll xs+1:=rfl;rw [HM];omega) fun b hb=>?_
   show wpAny _ _ (retInt (Builtin.Tuple.tupleHashOf b.toList)) _ _ _
   rw [hb]
   exact IW (wpAny_mkInt (IX ⟨_,_,rfl,h⟩))
 | .bool _,_,_,_,_,_,hk,_,_,_ | .list _,_,_,_,_,_,hk,_,_,_ | .dict _,_,_,_,_,_,hk,_,_,_=>by cases hk
theorem sm:∀(xs:List PyData) (vs:List Value) (as:List Addr) (A:Around) (s:Shared) (b:Array Int) (Q:Array Int->Shared->Prop),dY xs=true->ReadsAll s.heap vs xs as->A.units+PyData.depthAll xs<cLine ->
  (∀b',b'.toList=b.toList++PySem.W.hashesW w.params (PySem.W.ofPys xs)->Q b' { s with toks:=s.toks+mz xs }) ->
  wpAny (model prog w) A (forIn vs b fun x r=>do let h <-pyHash x;pure PUnit.unit;pure (ForInStep.yield (r.push h))) Q E s
 | [],_,_,A,s,b,Q,_,x,_,h=>by cases x;exact IX (h b (by simp [PySem.W.hashesW,PySem.W.ofPys]))
 | k::xs,_,_,A,s,b,Q,hk,x,hu,h=>by
  cases x with
  | cons x1 x2 =>
   have hk:(eT k&&dY xs)=true:=hk
   rw [G3] at hk
   have hu:A.units+max k.depth (PyData.depthAll xs)<cLine:=hu
   rw [HD]
   refine IW (IW (qh k _ _ A s _ hk.1 x1 (by omega) ?_))
   refine IW (IX (IX ?_))
   refine sm xs _ _ A _ _ Q hk.2 x2 (by omega) fun b' hb=>?_
   have h2:=h b' (by simp [hb,PySem.W.hashesW,PySem.W.ofPys])
   have e:mz (k::xs)=tJ k+mz xs:=rfl
   rw [e,<-Nat.add_assoc] at h2
   exact h2
end
mutual
theorem so:∀(d:PyData) (v:Value) (as:List Addr) (A:Around) (s:Shared) (n:Nat) (Q:Bool->Shared->Prop),eT d=true->Reads s.heap v d as->d.depth<=n->Q true s->wpAny (model prog w) A (eqIsQuiet n v) Q E s
 | .none,_,_,A,s,n,Q,_,x,_,h=>by cases x;unfold eqIsQuiet;exact IX h
 | .int i,_,_,A,s,n,Q,_,x,_,h=>by cases x;unfold eqIsQuiet;exact IX h
 | .str y,_,_,A,s,n,Q,_,x,_,h=>by cases x;unfold eqIsQuiet;exact IX h
 | .tuple xs,_,_,A,s,n,Q,hk,x,hn,h=>by
  cases x with
  | @tuple a o vs n' _ _ hg hc hd hw =>
   have hn:PyData.depthAll xs+1<=n:=hn
   obtain⟨n,rfl⟩:∃m,n=m+1:=⟨n-1,by omega⟩
   have hT:s.TypeIs (.ref a) "tuple" := ⟨_,hg,hc⟩
   unfold eqIsQuiet
   refine IW (wpAny_specialOf hT F.slot_tuple_eq.lookup ?_)
   show wpAny _ _ (isInstance (.ref a) (.type "tuple") >>= _) _ _ s
   refine IW (Jr hT isSubtype_tuple_tuple ?_)
   simp only [Bool.not_true,Hh,if_false]
   refine IW (Jf hg hd ?_)
   refine IW ?_
   show wpAny _ _ (forIn vs _ _) _ _ s
   rw [<-Array.forIn_toList]
   have hall:=sr xs vs.toList _ A s n hk hw (by omega)
   refine wpAny_forIn_list _ (fun rest r s'=>r.1=none/\s' = s/\∀v∈rest,∀Q:Bool->Shared->Prop,Q true s->wpAny (model prog w) A (eqIsQuiet n v) Q E s) _ ?_ ?_ _ _ ⟨rfl,rfl,hall⟩
   ·rintro v rest r s' ⟨hr,rfl,hq⟩
    refine IW (hq v Gx _ ?_)
    simp only [Bool.not_true,Hh,if_false]
    exact IX ⟨rfl,rfl,fun u hu'=>hq u (Gv _ hu')⟩
   ·rintro⟨r1,r2⟩ s' ⟨hr,rfl,_⟩
    simp only at hr
    subst hr
    exact IX h
 | .bool _,_,_,_,_,_,_,hk,_,_,_ | .list _,_,_,_,_,_,_,hk,_,_,_ | .dict _,_,_,_,_,_,_,hk,_,_,_=>by cases hk
theorem sr:∀(xs:List PyData) (vs:List Value) (as:List Addr) (A:Around) (s:Shared) (n:Nat),dY xs=true->ReadsAll s.heap vs xs as->PyData.depthAll xs<=n->∀v∈vs,∀Q:Bool->Shared->Prop,Q true s->wpAny (model prog w) A (eqIsQuiet n v) Q E s
 | [],_,_,A,s,n,_,x,_=>by cases x;intro v hv;cases hv
 | k::xs,_,_,A,s,n,hk,x,hn=>by
  cases x with
  | cons x1 x2 =>
   have hk:(eT k&&dY xs)=true:=hk
   rw [G3] at hk
   have hn:max k.depth (PyData.depthAll xs)<=n:=hn
   intro v hv Q h
   rcases Gn.mp hv with rfl | hv
   ·exact so k _ _ A s n Q hk.1 x1 (by omega) h
   ·exact sr xs _ _ A s n hk.2 x2 (by omega) v hv Q h
end
end
structure eN (d:PyData):Prop where
 key:eT d=true
 lay:d.canLay0=true
 dep:d.depth<=7
 tup:∃xs,d=.tuple xs
def jt (prog:Program)(w:World):HeapKind prog w PyData where
 is:=fun h d a=>eN d/\∃as,Reads h (.ref a) d as
 hash:=BH w
 draws:=tJ
 room:=fun A=>A.units+64<cLine
 inj:=fun ⟨h1,_,r1⟩ ⟨h2,_,r2⟩=>mB r1 r2 h1.key h2.key
 keeps:=fun {h h' k a d o es ep} ⟨h1,as,r1⟩ hd he hs=>⟨h1,as,qg (fun b u n vs e1 e2=>by
  have hne:b≠d:=by
   rintro rfl
   rw [hd] at e1
   cases e1
   rw [he] at e2
   cases e2
  exact (hs.2 b hne).trans e1) r1 h1.key⟩
 pyHash:=fun hu ⟨h1,_,r1⟩ h=>qh _ _ _ _ _ _ h1.key r1 (by have:=h1.dep;omega) h
 eqBool:=fun {A E s x y a b Q} hu ⟨h1,_,r1⟩ ⟨h2,_,r2⟩ h=>by
  refine PySem.SeqAt.eqAt_reads x y A s (.ref a) (.ref b) _ _ r1 r2 h1.lay h2.lay (by have:=h1.dep;have:=h2.dep;omega) prog w E Q ?_
  have e:PyData.eqv x y=decide (x=y):=by
   have:=rg h1.key h2.key
   by_cases hxy:x=y
   ·rw [decide_eq_true hxy];exact this.mpr hxy
   ·rw [decide_eq_false hxy];exact IA.mpr fun z=>hxy (this.mp z)
  rw [e]
  exact h
 quiet:=fun ⟨h1,_,r1⟩ h=>so _ _ _ _ _ _ _ h1.key r1 (by have:=h1.dep;omega) h
abbrev KX (kvs:List (PyData×Addr×V))(xs:List (PyData×Addr×Value)):Prop:=Paired (fun (p:PyData×Addr×V) (q:PyData×Addr×Value)=>p.1=q.1/\p.2.1=q.2.1/\RelV p.2.2 q.2.2) kvs xs
def mD (P:Program)(w:World)(a:Addr)(kvs:List (PyData×Addr×V))(h:Heap):Prop:=(a == sysModules)=false/\kvs.length<=sizeLine /\
 ∃(xs:List (PyData×Addr×Value)) (o:Obj) (es:Array DictEntry) (ep:Nat),h.get? a=some o/\o.ExactDict/\o.data=.dict es ep/\es.toList=xs.map (entryOfKey (jt P w))/\(xs.map (·.1)).Nodup/\KX kvs xs
def fk (P:Program)(w:World)(a:Addr)(kvs:List (PyData×Addr×V)):HO:=.ext (mD P w a kvs)
theorem oW {P:Program}{w:World}{H:Hp}{h:Heap}{a:Addr}{kvs:List (PyData×Addr×V)}(S:mD P w a kvs h):bM P w H h a (fk P w a kvs) :=
 ⟨S,let ⟨_,_,_,o,_,_,e,_⟩:=S;⟨o,e⟩,fun h1 h2 ⟨s1,s2,xs,o,es,ep,e,r⟩ k=>⟨s1,s2,xs,o,es,ep,k o e,r⟩⟩
def BI (H:Hp)(kvs:List (PyData×Addr×V)):Prop:=∀p∈kvs,eN p.1/\aX H (.ref p.2.1) p.1
noncomputable def eZ (kvs:List (PyData×Addr×V)) (d:PyData):Option V:=(kvs.find? fun p=>decide (p.1=d)).map (·.2.2)
noncomputable def putD (kvs:List (PyData×Addr×V)) (d:PyData) (k:Addr) (v:V):List (PyData×Addr×V):=if (eZ kvs d).isSome then kvs.map (fun p=>if p.1=d then (p.1,p.2.1,v) else p) else kvs++[(d,k,v)]
theorem KX.val {d:PyData}:∀{kvs:List (PyData×Addr×V)} {xs:List (PyData×Addr×Value)},KX kvs xs->(eZ kvs d=none/\atKey xs d=none)\/∃v a u,eZ kvs d=some v/\atKey xs d=some (a,u)/\RelV v u
 | _,_,.nil=>.inl ⟨rfl,rfl⟩
 | _,_,.cons (a:=p) (b:=q) (l₁:=kvs) (l₂:=xs) ⟨e1,e2,e3⟩ t=>by
  by_cases h:p.1=d
  ·refine .inr ⟨p.2.2,q.2.1,q.2.2,?_,?_,e3⟩
   ·unfold eZ;rw [IU (by exact decide_eq_true h)];rfl
   ·unfold atKey;rw [IU (by exact decide_eq_true (e1 ▸ h))];rfl
  ·have h':¬q.1=d:=fun z=>h (e1.trans z)
   have e4:eZ (p::kvs) d=eZ kvs d:=by unfold eZ;rw [IV (by rw [decide_eq_false h];decide)]
   have e5:atKey (q::xs) d=atKey xs d:=by unfold atKey;rw [IV (by rw [decide_eq_false h'];decide)]
   rw [e4,e5]
   exact KX.val t
theorem KX.put {d:PyData}{k:Addr}{v:V}{u:Value}(r:RelV v u){kvs:List (PyData×Addr×V)}{xs:List (PyData×Addr×Value)}(h:KX kvs xs):KX (putD kvs d k v) (storedH xs d k u):=by
 have hv:=h.val (d:=d)
 unfold putD storedH
 rcases hv with ⟨h1,h2⟩ | ⟨v',a',u',h1,h2,_⟩
 ·rw [h1,h2]
  have app:∀{l:List (PyData×Addr×V)} {m:List (PyData×Addr×Value)},KX l m->KX (l++[(d,k,v)]) (m++[(d,k,u)]):=by
   intro l m q
   induction q with
   | nil=>exact .cons ⟨rfl,rfl,r⟩ .nil
   | cons hq _ ih=>exact .cons hq ih
  exact app h
 ·rw [h1,h2]
  show KX (kvs.map fun p=>if p.1=d then (p.1,p.2.1,v) else p) (xs.map (putAt d u))
  have go:∀{l:List (PyData×Addr×V)} {m:List (PyData×Addr×Value)},KX l m->KX (l.map fun p=>if p.1=d then (p.1,p.2.1,v) else p) (m.map (putAt d u)):=by
   intro l m q
   induction q with
   | nil=>exact .nil
   | @cons p q ps qs hq _ ih =>
    refine .cons ?_ ih
    unfold putAt
    dsimp only
    by_cases e:p.1=d
    ·rw [if_pos e,if_pos (hq.1 ▸ e)]
     exact⟨hq.1,hq.2.1,r⟩
    ·rw [if_neg e,if_neg (fun z=>e (hq.1.trans z))]
     exact hq
  exact go h
theorem AO (kvs:List (PyData×Addr×V))(d:PyData)(k:Addr)(v:V):(putD kvs d k v).length<=kvs.length+1:=by
 unfold putD
 split
 ·rw [Gi];omega
 ·rw [Gq];exact Gj _
theorem KX.keys:∀{kvs:List (PyData×Addr×V)} {xs:List (PyData×Addr×Value)},KX kvs xs->∀q∈xs,∃p∈kvs,p.1=q.1/\p.2.1=q.2.1
 | _,_,.nil,q,hq=>nomatch hq
 | _,_,.cons (a:=p) (l₁:=kvs) ⟨e1,e2,_⟩ t,q,hq=>by
  rcases Gn.mp hq with rfl | hq
  ·exact⟨p,Gx ..,e1,e2⟩
  ·obtain⟨p',hp',r⟩:=KX.keys t q hq
   exact⟨p',Gv _ hp',r⟩
section
variable {X:Cx}{pins:List (Addr×Obj)}{Gf : St}{H:Hp}{s:Shared}{a k:Addr}{kvs:List (PyData×Addr×V)}{d:PyData}
theorem key_is (I:Inv X pins Gf H s)(hk:eN d)(r:aX H (.ref k) d):(jt X.prog X.w).is s.heap d k:=⟨hk,r.reads I.aL rfl⟩
theorem qi (I:Inv X pins Gf H s)(e:H a=some (fk X.prog X.w a kvs))(hk:BI H kvs):(a == sysModules)=false/\kvs.length<=sizeLine/\∃xs,KX kvs xs/\s.heap.DictOfH (jt X.prog X.w) a xs:=by
 obtain⟨h1,h2,xs,o,es,ep,g1,g2,g3,g4,g5,g6⟩:=(show mD X.prog X.w a kvs s.heap from (I.aL a _ e).1)
 refine⟨h1,h2,xs,g6,o,es,ep,g1,g2,g3,g4,fun x hx=>?_,g5⟩
 obtain⟨p,hp,e1,e2⟩:=g6.keys x hx
 have:=hk p hp
 rw [<-e1,<-e2]
 exact key_is I this.1 this.2
theorem KX.len:∀{kvs:List (PyData×Addr×V)} {xs:List (PyData×Addr×Value)},KX kvs xs->kvs.length=xs.length
 | _,_,.nil=>rfl
 | _,_,.cons _ t=>congrArg (· + 1) (KX.len t)
theorem tK {A:Around}(hu:A.units+66<cLine){P:Program}{w:World}:(jt P w).room A.in1:=by show A.in1.units+64<cLine;rw [HM];omega
structure xM (X:Cx) (H:Hp) (a k:Addr) (kvs:List (PyData×Addr×V)) (d:PyData):Prop where
 at_:H a=some (fk X.prog X.w a kvs)
 keys:BI H kvs
 key:eN d
 rd:aX H (.ref k) d
theorem Cu (hu:X.A.units+66<cLine):eG X (compareOp .In) (fun x y H Q=>∃k a d kvs,x=.ref k/\y=.ref a/\xM X H a k kvs d/\Q (.bl (eZ kvs d).isSome) H):=by
 intro pins s Gf H x y v u Q I rx ry h
 obtain⟨k,a,d,kvs,rfl,rfl,D,q⟩:=h
 cases rx
 cases ry
 obtain⟨h1,h2,xs,kx,dd⟩:=qi I D.at_ D.keys
 refine wpAny_in_heap (tK hu) (key_is I D.key D.rd) h1 dd ?_
 have e:(atKey xs d).isSome=(eZ kvs d).isSome:=by
  rcases kx.val (d:=d) with ⟨e1,e2⟩ | ⟨_,_,_,e1,e2,_⟩ <;> rw [e1,e2] <;> rfl
 rw [e]
 exact⟨.bl _,H,I.tok _,rfl,q⟩
theorem xN (hu:X.A.units+66<cLine):eG X (compareOp .NotIn) (fun x y H Q=>∃k a d kvs,x=.ref k/\y=.ref a/\xM X H a k kvs d/\Q (.bl (!(eZ kvs d).isSome)) H):=by
 intro pins s Gf H x y v u Q I rx ry h
 obtain⟨k,a,d,kvs,rfl,rfl,D,q⟩:=h
 cases rx
 cases ry
 obtain⟨h1,h2,xs,kx,dd⟩:=qi I D.at_ D.keys
 refine wpAny_notIn_heap (tK hu) (key_is I D.key D.rd) h1 dd ?_
 have e:(atKey xs d).isSome=(eZ kvs d).isSome:=by
  rcases kx.val (d:=d) with ⟨e1,e2⟩ | ⟨_,_,_,e1,e2,_⟩ <;> rw [e1,e2] <;> rfl
 rw [e]
 exact⟨.bl _,H,I.tok _,rfl,q⟩
theorem Cv {o i:Expr}{pos:Pos}{td ty:TE}(hu:X.A.units+66<cLine)(ho:PE X o td)(hi:PE X i ty)(hs:xt i) :
  PE X (.Subscript o i pos) (fun Gf H Q=>td Gf H fun x H1=>ty Gf H1 fun y H2=>∃k a d kvs v,x=.ref a/\y=.ref k/\xM X H2 a k kvs d/\eZ kvs d=some v/\Q v H2):=by
 intro pins s Gf H Q I h
 refine qS PySem.F.slot_dict_getitem.lookup hs (bB (ho pins s Gf H _ I h) fun u s1 ⟨x,H1,I1,rx,q1⟩=>bB (hi pins s1 Gf H1 _ I1 q1) fun iv s2 ⟨y,H2,I2,ry,k,a,d,kvs,v,ex,ey,D,hv,q2⟩=>?_)
 subst ex ey
 obtain rfl:u=Value.ref a:=rx
 obtain rfl:iv=Value.ref k:=ry
 obtain⟨h1,h2,xs,kx,dd⟩:=qi I2 D.at_ D.keys
 rcases kx.val (d:=d) with ⟨e1,_⟩ | ⟨v',a',u',e1,e2,e3⟩
 ·rw [e1] at hv;cases hv
 ·rw [e1] at hv
  cases hv
  exact⟨dd.typeIs,wpAny_getItem_heap (tK hu) (key_is I2 D.key D.rd) dd e2 ⟨_,H2,I2.tok _,e3,q2⟩⟩
theorem AQ (hu:X.A.units+66<cLine):zR X (fun o i v H Q=>∃k a d kvs,o=.ref a/\i=.ref k/\xM X H a k kvs d/\kvs.length<sizeLine/\Q (upd H a (fk X.prog X.w a (putD kvs d k v)))):=by
 intro pins s Gf H o i v ov iv u Q I ro ri rv h
 obtain⟨k,a,d,kvs,rfl,rfl,D,hz,q⟩:=h
 cases ro
 cases ri
 obtain⟨h1,h2,xs,kx,dd⟩:=qi I D.at_ D.keys
 refine wpAny_setItem_heap (tK hu) (key_is I D.key D.rd) dd (fun h' hm' hs'=>?_) (by rw [<-kx.len];exact h2)
 obtain⟨o',es,ep,g1,g2,g3,g4,g5,g6⟩:=id hm'
 refine⟨_,I.write (t':=_) (x:=a) (e:=a) (by rw [D.at_];exact trivial) (.inl rfl) (fun c u' hc hu=>(hs'.2 c hc).trans hu) ⟨o',g1⟩ (oW ⟨h1,?_,storedH xs d k u,o',es,ep,g1,g2,g3,g4,g6,kx.put rv⟩),q⟩
 have:=AO kvs d k v
 omega
end
open LS
section
variable {X:Cx}
end
def rh (a0 a1:V):List (Str×V):=[("members",a0),("places",a1)]
section
variable {a0 a1 z:V}
theorem gY:(rh a0 a1).lookup ("members" : Str)=some a0:=DM
theorem iP:(rh a0 a1).lookup ("places" : Str)=some a1:=(Av (by decide +kernel) DM)
theorem ql:eI "members" a0 ([]:List (Str×V))=([("members",a0)]:List (Str×V)):=DN
theorem zj:eI "places" a1 ([("members",a0)]:List (Str×V))=rh a0 a1:=(Fz (by decide +kernel) DN)
theorem uy:(rh a0 a1).lookup ("place_of" : Str)=none:=(Av (by decide +kernel) (Av (by decide +kernel) rfl))
end
structure oX (K:Gh) (C:Addr):Prop where
 cl:lJ K C
 members:iM K C "members"
 places:iM K C "places"
abbrev vN (ms:List Nat):List V:=ms.map fun k=>V.int (k:Nat)
def kJ (m d:Addr)(H H':Hp):Prop:=∀c o,H c=some o->c≠m->c≠d->H' c=some o
theorem kJ.refl {m d:Addr}{H:Hp}:kJ m d H H:=fun _ _ h _ _=>h
theorem kJ.of_same {m d:Addr}{H H':Hp}(h:af H H'):kJ m d H H':=fun c o e _ _=>h c o e
section
variable {C r m d:Addr}{H H':Hp}{ms:List Nat}
end
section
variable (C:Addr)
end
def Ge:Piece->Bool
 | ([],.go _)=>true
 | _=>false
theorem d9 {l:List Nat}{n:Nat}(nd:l.Nodup)(h:∀x∈l,x<n):l.length<=n:=by
 have:=sub_len nd (m:=G4 n) fun x hx=>HB.mpr (h x hx)
 simpa using this
def gZ:End->List V
 | .stop=>[.str "stop"]
 | .go _=>[.str "go"]
 | .cF b x n _ _=>[.str (wT b),.str x,.int n]
def AR:End->List Nat->End
 | .go _,[a]=>.go a
 | .cF b x n _ _,[a,c]=>.cF b x n a c
 | e,_=>e
theorem AS {e:End}{ns:List Nat}(h:ns.length=(aV e).length):eJ (AR e ns)=gZ e++vN ns:=by
 cases e with
 | stop=>match ns,h with | [],_=>rfl
 | go p=>match ns,h with | [a],_=>rfl
 | cF b x n p q=>match ns,h with | [a,c],_=>rfl
theorem zk {H:Hp}{t:Addr}{e:End}(h:H t=some (.tup (eJ e))):aX H (.ref t) (jm e):=by
 cases e with
 | stop=>exact .tup h (.cons (.str _) .nil)
 | go p=>exact .tup h (.cons (.str _) (.cons (.int _) .nil))
 | cF b x n p q=>exact .tup h (.cons (.str _) (.cons (.str _) (.cons (.int _) (.cons (.int _) (.cons (.int _) .nil)))))
theorem uz {ms:List Nat}{k:Nat}(h:ms.Nodup):(LS.putIn ms k).Nodup:=by
 unfold LS.putIn
 split
 ·exact h
 ·next hk =>
  rw [Hz]
  refine⟨h,by simp,fun x hx y hy z=>?_⟩
  rw [Gk.mp hy] at z
  exact hk (z ▸ hx)
def uA (k:Nat):PyData:=.int (k:Nat)
inductive sy  (vs:List V) (H:Hp) (Q:VK) (_:XK):Prop
 | mk (ea:Addr) (e:End) (_:vs=[.ref ea]) (_:H ea=some (.tup (eJ e))) (_:∀t H',H' t=some (.tup (gZ e))->af H H'->Q (.ref t) H')
theorem uB {H:Hp}:∀ms:List Nat,bu H (vN ms) (ms.map uA)
 | []=>.nil
 | _::ms=>.cons (.int _) (uB ms)
theorem eQ:∀ds:List PyData,(∀d∈ds,d.canLay0=true)->(PyData.tuple ds).canLay0=true
 | [],_=>rfl
 | d::ds,h=>by
  have ih:=eQ ds fun x hx=>h x (Gv _ hx)
  show (d.canLay0&&(PyData.tuple ds).canLay0)=true
  rw [h d (Gx ..),ih]
  rfl
theorem nv {m:Nat}:∀ds:List PyData,(∀d∈ds,d.depth<=m)->PyData.depthAll ds<=m
 | [],_=>GI _
 | d::ds,h=>by
  have ih:=nv ds fun x hx=>h x (Gv _ hx)
  have h1:=h d (Gx ..)
  show max d.depth (PyData.depthAll ds)<=m
  omega
theorem AU (d:di):(dB d).depth<=1:=by cases d <;> exact Gj 1
theorem Cw (e:End):(jm e).depth<=1:=by cases e <;> exact Gj 1
theorem zl (p:Piece):(bW p).depth<=3:=by
 have h1:=nv (p.1.map dB) fun d hd=>by obtain⟨x,_,rfl⟩:=GL.mp hd;exact AU x
 have h2:=Cw p.2
 show max (PyData.depthAll (p.1.map dB)+1) (max (jm p.2).depth 0)+1<=3
 omega
theorem fN {x:Str}(h:dH x):PyData.canLay0 (.str x)=true:=by
 show (x.cps.all fun c=>decide (c<0x110000))=true
 rw [<-Array.all_toList,IB]
 intro c hc
 have:=h.az c hc
 exact decide_eq_true (by omega)
theorem AV {xs:List Str}(hx:∀x∈xs,dH x){d:di}(h:ft xs d):(dB d).canLay0=true:=by
 cases d with
 | put x n =>
  refine eQ _ fun y hy=>?_
  rcases Gn.mp hy with rfl | hy
  ·decide +kernel
  rcases Gn.mp hy with rfl | hy
  ·exact fN (hx _ h.1)
  rw [Gk.mp hy];rfl
 | copy x z =>
  refine eQ _ fun y hy=>?_
  rcases Gn.mp hy with rfl | hy
  ·decide +kernel
  rcases Gn.mp hy with rfl | hy
  ·exact fN (hx _ h.1)
  rw [Gk.mp hy];exact fN (hx _ h.2)
 | add x n =>
  refine eQ _ fun y hy=>?_
  rcases Gn.mp hy with rfl | hy
  ·decide +kernel
  rcases Gn.mp hy with rfl | hy
  ·exact fN (hx _ h.1)
  rw [Gk.mp hy];rfl
 | read x =>
  refine eQ _ fun y hy=>?_
  rcases Gn.mp hy with rfl | hy
  ·decide +kernel
  rw [Gk.mp hy];exact fN (hx _ h)
 | tell x =>
  refine eQ _ fun y hy=>?_
  rcases Gn.mp hy with rfl | hy
  ·decide +kernel
  rw [Gk.mp hy];exact fN (hx _ h)
theorem Cy {xs:List Str}(hx:∀x∈xs,dH x){c:Nat}{e:End}(h:i7 xs c e):(jm e).canLay0=true:=by
 cases e with
 | stop =>
  refine eQ _ fun y hy=>?_
  rw [Gk.mp hy];decide +kernel
 | go p =>
  refine eQ _ fun y hy=>?_
  rcases Gn.mp hy with rfl | hy
  ·decide +kernel
  rw [Gk.mp hy];rfl
 | cF b x n p q =>
  refine eQ _ fun y hy=>?_
  rcases Gn.mp hy with rfl | hy
  ·cases b <;> decide +kernel
  rcases Gn.mp hy with rfl | hy
  ·exact fN (hx _ h.1)
  rcases Gn.mp hy with rfl | hy
  ·rfl
  rcases Gn.mp hy with rfl | hy
  ·rfl
  rw [Gk.mp hy];rfl
def FF (ps:List Piece):Prop:=∀p∈ps,(PyData.tuple (p.1.map dB)).canLay0=true/\(jm p.2).canLay0=true
theorem AW {xs:List Str}(hx:∀x∈xs,dH x){m:Nat}{ps:List Piece}(ok:b8 xs m ps):FF ps:=fun p hp =>
 ⟨eQ _ fun d hd=>by obtain⟨x,hx',rfl⟩:=GL.mp hd;exact AV hx ((ok.gU p hp).2 x hx'),Cy hx (ok.ends p hp)⟩
theorem kn (k:Nat):∀ms:List Nat,lL (.int (k:Nat)) (vN ms)=decide (k∈ms)
 | []=>rfl
 | m::ms=>by
  have ih:=kn k ms
  show ((((m:Nat):Int) == ((k:Nat):Int))||lL (.int (k:Nat)) (vN ms))=_
  rw [ih]
  by_cases e:m=k
  ·subst e;simp
  ·have e':¬(m:Int)=(k:Int):=by omega
   rw [beq_false_of_ne e',Bool.false_or]
   have:k∈m::ms↔k∈ms:=by rw [Gn];exact⟨fun h=>h.resolve_left fun z=>e z.symm,.inr⟩
   simp only [this]
theorem ny (ms:List Nat):(vN ms).all iE=true:=by rw [IB];intro v hv;obtain⟨k,_,rfl⟩:=GL.mp hv;rfl
theorem mE (ms:List Nat):vN ms=(ms.map fun k:Nat=>(k:Int)).map V.int:=by rw [HK];rfl
theorem xO {K:Gh}{H:Hp}{ea:Addr}{e:End}{Q:VK}(he:H ea=some (.tup (eJ e)))(q:∀t H',H' t=some (.tup (gZ e))->af H H'->Q (.ref t) H'):BA K (.ref ea) none (some ((gZ e).length:Nat)) H Q:=by
 have ec:ij (eJ e) none (some ((gZ e).length:Nat))=gZ e:=by
  unfold ij
  rw [HT.tT,HT.vR]
  cases e <;> rfl
 refine⟨ea,_,rfl,av.of he,fun hw=>?_,fun _ p hp=>?_⟩
 ·unfold ij at ec
  rw [hw.1,hw.2] at ec
  refine q ea H ?_ (af.refl H)
  rw [he,<-ec]
  simp
 ·rw [ec]
  exact q p _ aa (af.new hp)
structure NF (X:Cx) (a:Addr):Prop where
 none_:∀o,X.dJ.heap.get? a=some o->X.kq a=none->a∉X.ex->False
 tup:∀xs,X.kq a≠some (.tup xs)
 d5:∀o u,X.kq a≠some (.d5 o u)
 lH:∀ps,X.kq a≠some (.lH ps)
section
variable {X:Cx}{pins:List (Addr×Obj)}{Gf : L2.St}{H:Hp}{s:Shared}{a:Addr}
theorem Inv.nf {kvs:List (Key×V)}(I:Inv X pins Gf H s)(e:H a=some (.dK kvs)):NF X a where
 none_:=fun o h1 h2 h3=>by
  have:=I.base.free a o h1 h2 h3
  rw [e] at this
  cases this
 tup:=fun xs h=>by
  have:=I.base.aK a xs h
  rw [e] at this
  cases this
 d5:=fun o u h=>by
  have:=I.base.fF a o u h
  rw [e] at this
  cases this
 lH:=fun ps h=>by
  obtain⟨more,this⟩:=I.base.fH a ps h
  rw [e] at this
  cases this
theorem Inv.swap {u u':HO}(I:Inv X pins Gf H s)(nf:NF X a)(e:H a=some u)(no:∀y,u≠.own y)(nt:∀xs,u≠.tup xs)(new:bM X.prog X.w (upd H a u') s.heap a u'):Inv X pins Gf (upd H a u') s where
 ok:=I.ok
 os:=I.os
 bare:=I.bare
 base:={
  keep:=I.base.keep
  slot:=I.base.slot
  free:=fun b o h1 h2 h3=>by
   by_cases z:b=a
   ·subst z;exact absurd (nf.none_ o h1 h2 h3) id
   ·rw [ao z];exact I.base.free b o h1 h2 h3
  there:=I.base.there
  aK:=fun b xs h=>by
   have z:b≠a:=fun z=>by subst z;exact nf.tup xs h
   rw [ao z];exact I.base.aK b xs h
  fF:=fun b o v h=>by
   have z:b≠a:=fun z=>by subst z;exact nf.d5 o v h
   rw [ao z];exact I.base.fF b o v h
  fH:=fun b ps h=>by
   have z:b≠a:=fun z=>by subst z;exact nf.lH ps h
   rw [ao z];exact I.base.fH b ps h }
 loc:=I.loc
 cell:=I.cell
 free:=by rw [ao (fun z=>by have:=I.free;rw [z,e] at this;cases this)];exact I.free
 dz:=fun x c h=>by rw [ao (fun z=>by have:=I.dz x c h;rw [z,e] at this;cases this)];exact I.dz x c h
 pin:=fun p hp=>by
  obtain⟨h1,h2,h3⟩:=I.pin p hp
  exact⟨h1,by rw [ao (fun z=>by rw [z,e] at h2;cases h2)];exact h2,h3⟩
 aL:=fun b o h=>by
  by_cases z:b=a
  ·subst z
   rw [aa] at h
   cases h
   exact new
  ·rw [ao z] at h
   refine (I.aL b o h).jP (fun _ _ _ q=>q) (fun c q=>?_) fun c xs q=>?_
   ·rw [ao (fun y=>by rw [y,e] at q;exact no _ (Gy.inj q))];exact q
   ·rw [ao (fun y=>by rw [y,e] at q;exact nt _ (Gy.inj q))];exact q
 len:=I.len
end
theorem Cz {P:Program}{w:World}{k:Key}{v:Value}(h:(aQ P w).is k v=true):RelV (kV k) v:=by
 cases k with
 | inr x=>exact jS h
 | inl i =>
  obtain⟨t,e⟩:=Value.isInt_shape (show Value.isInt i v=true from h)
  exact⟨t,e⟩
def EX (a:Addr)(kvs:List (Key×V))(ob:Obj):It :=
 ⟨fun i H=>H a=some (.d5 ob (.dK kvs))/\i<kvs.length,fun i H x H'=>H' = H/\∃k v,kvs[i]?=some (k,v)/\x=kV k,fun i H=>H a=some (.d5 ob (.dK kvs))/\kvs.length<=i⟩
theorem zm {P:Program}{w:World}{K:Gh}{tg:Expr}{kvs:List (Key×V)}{vs:List (Key×Value)}{ob:Obj}{ep:Nat}(a it:Addr)(hat:∀h:Heap,h.get? a=some ob->h.DictAt (aQ P w) a vs ep)(rel:KV kvs vs) :
  Turn P w K tg (EX a kvs ob) [it] it (fun i h=>h.IsKeyIter it a i vs.length ep) where
 mem:=by simp
 obj:=fun i h st b hb=>by
  have e:b=it:=by simpa using hb
  subst e
  obtain⟨o,e,c,d⟩:=st
  exact⟨o,e,fun v z=>by rw [d] at z;cases z⟩
 keep:=fun i h h' st k=>st.at fun o e=>k it (by simp) o e
 item:=by
  intro X hP hw hK hc i pins s Gf H E I hf st hg
  subst hP hw hK
  obtain⟨ha,hi⟩:=hg
  obtain⟨e0,_⟩:=(show bM X.prog X.w H s.heap a (.d5 ob (.dK kvs)) from I.aL a _ ha)
  have hvi:i<vs.length:=by rw [<-rel.length];exact hi
  have hx:vs[i]?=some vs[i]:=by simp [hvi]
  generalize vs[i]=p at hx
  obtain⟨k,u⟩:=p
  obtain⟨v,hkv⟩:∃v,kvs[i]?=some (k,v):=by
   have e1:(vs.map (·.1))[i]?=some k:=by rw [Gz,hx];rfl
   rw [<-rel.keys,Gz] at e1
   cases e2:kvs[i]? with
   | none=>rw [e2] at e1;cases e1
   | some q =>
    rw [e2] at e1
    obtain⟨k',v⟩:=q
    cases (Gy.inj e1)
    exact⟨v,rfl⟩
  obtain⟨f0,f1,f2,f3,f4,f5⟩:=hf it (by simp)
  refine wpAny_pyNext_dict_item st (hat _ e0) hx fun key h' hkey st' sb=>?_
  have I1:Inv X pins Gf H { s with heap:=h' }:=I.turned (t':=s.toks) (fun b o hb e=>(sb.2 b hb).trans e) f0 f1 f3 f4 f5
  obtain⟨o,e,c,d⟩:=id st'
  exact⟨key,rfl,tE (s:={ s with heap:=h' }) e c d (by decide) ⟨kV k,H,I1,Cz hkey,⟨rfl,k,v,hkv,rfl⟩,st',fun b hb=>(hf b hb).1⟩⟩
 done:=by
  intro X hP hw hK hc i pins s Gf H E I hf st hg
  subst hP hw hK
  obtain⟨ha,hi⟩:=hg
  obtain⟨e0,_⟩:=(show bM X.prog X.w H s.heap a (.d5 ob (.dK kvs)) from I.aL a _ ha)
  obtain⟨f0,f1,f2,f3,f4,f5⟩:=hf it (by simp)
  exact wpAny_pyNext_dict_end (I.ok.hd hc) st (hat _ e0) (HA (by rw [<-rel.length];exact hi)) fun h' eb=>⟨rfl,I.turned (t':=s.toks) (fun b o hb e=>eb b o hb e) f0 f1 f3 f4 f5⟩
 self:=fun _ _ _ _ _ st h=>wpAny_pyIter_keyiter st h
section
variable {X:Cx}
def EJ (i:Nat)(X:Cx):TI:=fun Gf H R=>∃v,Gf[i]?=some (some v)/\∃a kvs,v=.ref a/\H a=some (.dK kvs)/\∀ob,NF X a->R (EX a kvs ob) (upd H a (.d5 ob (.dK kvs)))
theorem CA {tg l:Expr}{i:Nat}(hl:PE X l (qL i)):PI X tg l (EJ i X):=by
 intro pins s Gf H R I h
 obtain⟨v0,hv0,a,kvs,rfl,ha,q⟩:=h
 refine bB (hl pins s Gf H (fun x H1=>x=.ref a/\H1=H) I ⟨_,hv0,rfl,rfl⟩) fun v s1 ⟨x,H1,I1,r1,e1,e2⟩=>?_
 subst e1 e2
 cases r1
 have nf:=I1.nf ha
 obtain⟨z,hd,vs,rel,dd⟩:=ng I1.aL ha
 obtain⟨ep,ob,es,ho,rest⟩:=dd.dictAt
 have I2:Inv X pins Gf (upd H1 a (.d5 ob (.dK kvs))) s1:=I1.swap nf ha (fun _ h=>nomatch h) (fun _ h=>nomatch h) ⟨ho,mh z hd rel ⟨ob,es,ep,ho,rest⟩⟩
 refine wpAny_pyIter_dict hd ⟨ob,es,ho,rest⟩ ?_
 refine⟨s1.heap.objs.size,[s1.heap.objs.size],_,_,_,rfl,I2.kept (t':=s1.toks) fun b o e=>Gp _ e,zm a _ (fun h e=>⟨ob,es,e,rest⟩) rel,⟨_,Gu _ rfl,rfl,rfl⟩,fun b hb=>?_,q ob nf⟩
 have e:b=s1.heap.objs.size:=by simpa using hb
 subst e
 exact I2.oB (Gj _) (I2.aL.fresh (Gj _))
def EK (i:Nat)(g:TG)(tb:TS):TS:=fun D Gf H=>∃v,Gf[i]?=some (some v)/\∃a kvs,v=.ref a/\H a=some (.dK kvs)/\∀ob,∃Pv:Nat->L2.St->Hp->Prop,Pv 0 Gf (upd H a (.d5 ob (.dK kvs))) /\
 (∀j Gg H2,Pv j Gg H2->H2 a=some (.d5 ob (.dK kvs))) /\
 (∀j k u Gg H2,kvs[j]?=some (k,u)->Pv j Gg H2->g (kV k) Gg H2 fun τ3 H3=>tb { D with nx:=Pv (j+1),ct:=Pv (j+1),bk:=fun τ4 H4=>∃ob',H4 a=some (.d5 ob' (.dK kvs))/\D.nx τ4 (upd H4 a (.dK kvs)),rt:=fun r H4=>∃ob',H4 a=some (.d5 ob' (.dK kvs))/\D.rt r (upd H4 a (.dK kvs)) } τ3 H3) /\
 (∀Gg H2,Pv kvs.length Gg H2->D.nx Gg (upd H2 a (.dK kvs)))
theorem DY {pins:List (Addr×Obj)}{Gf : L2.St}{H:Hp}{s:Shared}{a:Addr}{ob:Obj}{kvs:List (Key×V)}(I:Inv X pins Gf H s)(nf:NF X a)(e:H a=some (.d5 ob (.dK kvs))):Inv X pins Gf (upd H a (.dK kvs)) s:=by
 obtain⟨z,hd,vs,rel,dd⟩:=nc I.aL (.inr ⟨ob,e⟩)
 exact I.swap nf e (fun _ h=>nomatch h) (fun _ h=>nomatch h) (mh z hd rel dd)
theorem CB {tg l:Expr}{body:List Stmt}{i:Nat}{g:TG}{tb:TS}{pos:Pos}(hp:PassesOwn (model X.prog X.w) X.A X.env X.xe)(hc:X.calm=true)(hl:PE X l (qL i))(hg:PG X tg g)(hb:fX X body tb)
  (hs:∀x,foldedSetIterable l X.env x=pure x:=by intro _;rfl):PS X (.For tg l body [] pos) (EK i g tb):=by
 intro pins s Gf H D I h
 obtain⟨v,hv,a,kvs,rfl,ha,h⟩:=h
 have nf:=I.nf ha
 refine bB (cW hp hc (CA hl) hg hb hs pins s Gf H { nx:=fun Gg H2=>∃ob,H2 a=some (.d5 ob (.dK kvs))/\D.nx Gg (upd H2 a (.dK kvs)),rt:=fun r H2=>∃ob,H2 a=some (.d5 ob (.dK kvs))/\D.rt r (upd H2 a (.dK kvs)),bk:=D.bk,ct:=D.ct } I ?_) fun f s' q=>?_
 ·refine⟨_,hv,a,kvs,rfl,ha,fun ob _=>?_⟩
  obtain⟨Pv,p0,pf,ps,pe⟩:=h ob
  refine⟨fun j m Gg H2=>m=kvs.length-j/\j<=kvs.length/\Pv j Gg H2,⟨kvs.length,by simp,GI _,p0⟩,?_⟩
  rintro j m Gg H2 ⟨rfl,hj,p⟩
  by_cases hlt:j<kvs.length
  ·refine .inr ⟨⟨pf j Gg H2 p,hlt⟩,Pv (j+1),fun τ' H' p'=>⟨kvs.length-(j+1),by omega,rfl,hlt,p'⟩,fun x H' y=>?_⟩
   obtain⟨e1,k,u,e2,e3⟩:=y
   subst e1 e3
   exact ps j k u Gg _ e2 p
  ·have e:j=kvs.length:=by omega
   subst e
   exact .inl ⟨⟨pf _ Gg H2 p,Gj _⟩,ob,pf _ Gg H2 p,pe Gg H2 p⟩
 ·cases f with
  | next =>
   obtain⟨Gg,H2,I2,ob,e,q⟩:=q
   exact⟨Gg,_,DY I2 nf e,q⟩
  | brk=>exact q
  | cont=>exact q
  | ret u =>
   obtain⟨r,Gg,H2,I2,rr,ob,e,q⟩:=q
   exact⟨r,Gg,_,DY I2 nf e,rr,q⟩
end
def LT (H:Hp)(d:Addr)(T:Str->Sx)(m:Nat):Prop:=∃kvs ks,H d=some (.dK kvs)/\Tb 0 H kvs ks T/\(∀x∈ks,T x≠cQ)/\ks.length<=m
theorem LT.aK {H H':Hp}{d:Addr}{T:Str->Sx}{m:Nat}(h:LT H d T m)(hd:∀o,H d=some o->H' d=some o)(k:∀p xs,H p=some (.tup xs)->H' p=some (.tup xs)):LT H' d T m:=by
 obtain⟨kvs,ks,h1,h2,h3,h4⟩:=h
 exact⟨kvs,ks,hd _ h1,h2.aK k,h3,h4⟩
theorem LT.same {H H':Hp}{d:Addr}{T:Str->Sx}{m:Nat}(h:LT H d T m)(s:af H H'):LT H' d T m:=h.aK (fun o e=>s _ _ e) fun p xs e=>s _ _ e
theorem LT.get {H:Hp}{T:Str->Sx}{kvs:List (Key×V)}{ks:List Str}{t:Addr}(tb:Tb 0 H kvs ks T)(cl:∀x∈ks,T x≠cQ)(ht:H t=some (.tup [.aZ,.aZ]))(x:Str):∃v,(b5 kvs (Sum.inr x)).getD (.ref t)=v/\SH H v (T x):=by
 rcases tb.val x with ⟨a,b,_⟩ | ⟨v,a,b,c⟩
 ·exact⟨_,by rw [a];rfl,t,rfl,by rw [b];exact ht⟩
 ·refine⟨v,by rw [a];rfl,?_⟩
  rcases b with b | ⟨_,b⟩
  ·exact b
  ·exact absurd b (cl x c)
theorem sA {T:Str->Sx}{x:Str}(h:T x=cQ):cS T x cQ=T:=by
 funext y
 unfold cS
 by_cases e:y=x
 ·rw [if_pos e,e,h]
 ·rw [if_neg e]
theorem zo {T:Str->Sx}{x:Str}{s t:Sx}:cS (cS T x s) x t=cS T x t:=by
 funext y
 unfold cS
 by_cases e:y=x
 ·rw [if_pos e,if_pos e]
 ·rw [if_neg e,if_neg e,if_neg e]
theorem sC (k j:Key):∀kvs:List (Key×V),b5 (fg kvs k) j=if j=k then none else b5 kvs j
 | []=>by simp [fg,b5]
 | p::r=>by
  have ih:=sC k j r
  by_cases e:p.1=k
  ·rw [sd e,ih]
   by_cases z:j=k
   ·rw [if_pos z,if_pos z]
   ·rw [if_neg z,if_neg z,dm (p:=p) (fun w:p.1=j=>z (w.symm.trans e))]
  ·rw [se e]
   by_cases w:p.1=j
   ·rw [dC w,dC w,if_neg (fun z=>e (w.trans z))]
   ·rw [dm w,dm w,ih]
theorem Tb.drop {aA:Addr}{H:Hp}{kvs:List (Key×V)}{ks:List Str}{T:Str->Sx}(h:Tb aA H kvs ks T)(x:Str):Tb aA H (fg kvs (Sum.inr x)) (ks.filter fun y=>decide (y≠x)) (cS T x cQ) where
 keys:=by
  have go:∀(kvs:List (Key×V)) (ks:List Str),kvs.map (·.1)=ks.map Sum.inr->(fg kvs (Sum.inr x)).map (·.1)=(ks.filter fun y=>decide (y≠x)).map Sum.inr:=by
   intro kvs
   induction kvs with
   | nil =>
    intro ks e
    cases ks with
    | nil=>rfl
    | cons a b=>simp at e
   | cons p r ih =>
    intro ks e
    cases ks with
    | nil=>simp at e
    | cons a b =>
     rw [GK,GK] at e
     injection e with e1 e2
     by_cases z:a=x
     ·rw [sd (by rw [e1,z]),HZ (by simp [z])]
      exact ih b e2
     ·rw [se (fun w=>z (Sum.inr.inj (e1.symm.trans w))),IC (by simp [z]),GK,GK,ih b e2,e1]
  exact go kvs ks h.keys
 nd:=h.nd.filter _
 val:=fun y=>by
  rw [sC]
  unfold cS
  by_cases e:y=x
  ·subst e
   rw [if_pos rfl,if_pos rfl]
   exact .inl ⟨rfl,rfl,by simp⟩
  ·rw [if_neg (fun z=>e (Sum.inr.inj z)),if_neg e]
   rcases h.val y with ⟨a,b,c⟩ | ⟨v,a,b,c⟩
   ·exact .inl ⟨a,b,fun z=>c (Hj.mp z).1⟩
   ·exact .inr ⟨v,a,b,Hj.mpr ⟨c,by simp [e]⟩⟩
theorem zp {kvs:List (Key×V)}{k:Key}{v:V}{j:Nat}(nd:(kvs.map (·.1)).Nodup)(h:kvs[j]?=some (k,v)):putK (kvs.take j) k v=kvs.take (j+1):=by
 have hj:j<kvs.length:=(GH.mp h).1
 have hn:¬k∈(kvs.take j).map (·.1):=fun hm=>by
  have hs:(kvs.take (j+1)).map (·.1)=(kvs.take j).map (·.1)++[k]:=by
   rw [GN,h,GF];rfl
  have nd2:((kvs.take (j+1)).map (·.1)).Nodup:=by
   rw [List.map_take]
   exact nd.sublist (List.take_sublist _ _)
  rw [hs,Hz] at nd2
  exact nd2.2.2 k hm k (by simp) rfl
 have hv:b5 (kvs.take j) k=none:=by
  cases e:b5 (kvs.take j) k with
  | none=>rfl
  | some u=>exact absurd (Cg e) hn
 rw [Ak _ hv,GN,h]
 rfl
inductive wA  (vs:List V) (H:Hp) (Q:VK) (_:XK):Prop
 | mk (d:Addr) (T:Str->Sx) (_:vs=[.ref d]) (_:LT H d T 63) (_:∀v H',FV H' v T->af H H'->Q v H')
inductive rm  (vs:List V) (H:Hp) (Q:VK) (_:XK):Prop
 | mk (d:Addr) (T:Str->Sx) (m:Nat) (x:Str) (sv:V) (s:Sx) (_:vs=[.ref d,.str x,sv]) (_:LT H d T m) (_:m<=60) (_:SH H sv s) (_:∀d' H',LT H' d' (cS T x s) (m+1)->af H H'->Q (.ref d') H')
inductive zq  (vs:List V) (H:Hp) (Q:VK) (_:XK):Prop
 | mk (d p:Addr) (T:Str->Sx) (m:Nat) (ws:List V) (ds:List di) (_:vs=[.ref d,.ref p]) (_:LT H d T m) (_:H p=some (.tup ws)) (_:bu H ws (ds.map dB)) (_:m+ds.length<=60) (_:∀d' H',LT H' d' (bD T ds) (m+ds.length)->af H H'->Q (.ref d') H')
theorem AX {x:Str}(h:dH x):PyData.canLay0 (.str x)=true:=by
 show (x.cps.all fun c=>decide (c<0x110000))=true
 rw [<-Array.all_toList,IB]
 intro c hc
 have:=h.az c hc
 exact decide_eq_true (by omega)
def uC (T:Str->Sx)(m:Nat):Prop:=∀ss:List Str,(∀x∈ss,T x≠cQ)->ss.Nodup->ss.length<=m
inductive wB (aA:Addr) (vs:List V) (H:Hp) (Q:VK) (_:XK):Prop
 | mk (fv:V) (x:Str) (T:Str->Sx) (_:vs=[fv,.str x]) (_:FV H fv T) (_:∀v H',SV aA H' v (T x)->af H H'->Q v H')
inductive oi (aA:Addr) (vs:List V) (H:Hp) (Q:VK) (_:XK):Prop
 | mk (fv sv:V) (x:Str) (T:Str->Sx) (s:Sx) (_:vs=[fv,.str x,sv]) (_:FV H fv T) (_:SV aA H sv s) (_:uC T 62) (_:∀v H',FV H' v (cS T x s)->af H H'->Q v H')
section
variable {X:Cx}
end
theorem LT.up {H:Hp}{d:Addr}{T:Str->Sx}{m n:Nat}(h:LT H d T m)(le:m<=n):LT H d T n:=by
 obtain⟨kvs,ks,g1,g2,g3,g4⟩:=h
 exact⟨kvs,ks,g1,g2,g3,Gr g4 le⟩
inductive wC (K:Gh) (vs:List V) (H:Hp) (Q:VK) (_:XK):Prop
 | mk (n:Int) (q:Addr) (lo hi:Option Int) (_:vs=[.int n,.ref q]) (_:av K H q [vO lo,vO hi]) (_:Q (.bl (eV n lo hi)) H)
inductive mF (K:Gh) (F:Option Int->Option Int->Int->Rs) (vs:List V) (H:Hp) (Q:VK) (_:XK):Prop
 | mk (p:Addr) (n:Int) (lo hi:Option Int) (_:vs=[.ref p,.int n]) (_:av K H p [vO lo,vO hi]) (_:∀v H',RV H' v (F lo hi n)->af H H'->Q v H')
inductive wF (K:Gh) (vs:List V) (H:Hp) (Q:VK) (_:XK):Prop
 | mk (p:Addr) (w:Str) (n:Int) (side:Bool) (lo hi:Option Int) (_:vs=[.ref p,.str w,.int n,.bl side]) (_:av K H p [vO lo,vO hi]) (_:∀v H',RV H' v (dP w lo hi n side)->af H H'->Q v H')
def fw (T:Str->Sx)(b:Bool)(x:Str)(n:Int)(side:Bool):Rs:=dP (wT b) (T x).1 (T x).2 n side
def hG (T:Str->Sx):End->List (Option (Str->Sx))
 | .stop=>[]
 | .go _=>[some T]
 | .cF b x n _ _=>[(fw T b x n true).map (cS T x),(fw T b x n false).map (cS T x)]
def BV (H:Hp)(u:V):Option (Str->Sx)->Prop
 | none=>u=.aZ
 | some T=>FV H u T
theorem BV.aK {H H':Hp}{u:V}{o:Option (Str->Sx)}(h:BV H u o)(k:∀p xs,H p=some (.tup xs)->H' p=some (.tup xs)):BV H' u o:=by
 cases o with
 | none=>exact h
 | some T=>exact FV.aK h k
def lQ (H:Hp)(us:List V)(os:List (Option (Str->Sx))):Prop:=Paired (BV H) us os
def cB (T:Str->Sx)(e:End):List (Nat×(Str->Sx)):=((aV e).zip (hG T e)).filterMap fun p=>p.2.map fun U=>(p.1,U)
inductive uD (aA:Addr) (vs:List V) (H:Hp) (Q:VK) (_:XK):Prop
 | mk (fv:V) (ea:Addr) (T:Str->Sx) (e:End) (_:vs=[fv,.ref ea]) (_:FV H fv T) (_:H ea=some (.tup (eJ e))) (_:uC T 62) (_:∀(t:Addr) (us:List V) (H':Hp),H' t=some (.tup us)->lQ H' us (hG T e)->af H H'->Q (.ref t) H')
def PV (H:Hp)(v:V)(p:Nat×(Str->Sx)):Prop:=∃q u,v=.ref q/\H q=some (.tup [.int p.1,u])/\FV H u p.2
theorem PV.aK {H H':Hp}{v:V}{p:Nat×(Str->Sx)}(h:PV H v p)(k:∀p xs,H p=some (.tup xs)->H' p=some (.tup xs)):PV H' v p:=by
 obtain⟨q,u,e,h1,h2⟩:=h
 exact⟨q,u,e,k _ _ h1,h2.aK k⟩
def mG (H:Hp)(vs:List V)(ps:List (Nat×(Str->Sx))):Prop:=Paired (PV H) vs ps
theorem mG.aK {H H':Hp}(k:∀p xs,H p=some (.tup xs)->H' p=some (.tup xs)):∀{vs:List V} {ps:List (Nat×(Str->Sx))},mG H vs ps->mG H' vs ps
 | _,_,.nil=>.nil
 | _,_,.cons h t=>.cons (h.aK k) (mG.aK k t)
theorem lQ.aK {H H':Hp}(k:∀p xs,H p=some (.tup xs)->H' p=some (.tup xs)):∀{vs:List V} {ps:List (Option (Str->Sx))},lQ H vs ps->lQ H' vs ps
 | _,_,.nil=>.nil
 | _,_,.cons h t=>.cons (h.aK k) (lQ.aK k t)
theorem mG.same {H H':Hp}{vs:List V}{ps:List (Nat×(Str->Sx))}(h:mG H vs ps)(s:af H H'):mG H' vs ps:=h.aK fun p xs e=>s _ _ e
theorem lQ.same {H H':Hp}{vs:List V}{ps:List (Option (Str->Sx))}(h:lQ H vs ps)(s:af H H'):lQ H' vs ps:=h.aK fun p xs e=>s _ _ e
inductive wG (aA:Addr) (vs:List V) (H:Hp) (Q:VK) (_:XK):Prop
 | mk (fv:V) (ea:Addr) (T:Str->Sx) (e:End) (_:vs=[fv,.ref ea]) (_:FV H fv T) (_:H ea=some (.tup (eJ e))) (_:uC T 62) (_:∀(t:Addr) (vs:List V) (H':Hp),H' t=some (.tup vs)->mG H' vs (cB T e)->af H H'->Q (.ref t) H')
def oY (T:Str->Sx):Prop:=∀x,T x≠cQ->PyData.canLay0 (.str x)=true
theorem zr {T:Str->Sx}(h:oY T):∀ss:List Str,(∀x∈ss,T x≠cQ)->(fM T ss).canLay0=true
 | [],_=>rfl
 | x::ss,hs=>by
  have ih:=zr h ss fun y hy=>hs y (Gv _ hy)
  show ((PyData.canLay0 (.str x)&&((dS (T x)).canLay0&&true))&&(fM T ss).canLay0)=true
  rw [h x (hs x (Gx ..)),xJ,ih]
  rfl
theorem DZ (T:Str->Sx)(ss:List Str):(fM T ss).depth<=3:=by
 have go:∀ss:List Str,PyData.depthAll (ss.map (dF T))<=2:=by
  intro ss
  induction ss with
  | nil=>exact GI _
  | cons x ss ih =>
   show max (max 0 (max ((dS (T x)).depth) 0)+1) (PyData.depthAll (ss.map (dF T)))<=2
   have hd:(dS (T x)).depth<=1:=by
    obtain⟨a,b⟩:=T x
    cases a <;> cases b <;> (show (1:Nat)<=1;decide)
   omega
 show PyData.depthAll (ss.map (dF T))+1<=3
 have:=go ss
 omega
theorem CC {T:Str->Sx}{e:End}(h:(aV e).length<2):hG T e=(aV e).map fun _=>some T:=by
 cases e with
 | stop=>rfl
 | go p=>rfl
 | cF b x n p q=>exact absurd h (by show ¬2<2;omega)
theorem wH {H:Hp}{fv:V}{T:Str->Sx}(h:FV H fv T):∀l:List Nat,lQ H (Hu l.length fv) (l.map fun _=>some T)
 | []=>.nil
 | _::l=>.cons h (wH h l)
def om (H:Hp)(vs:List V)(rs:List Rs):Prop:=Paired (RV H) vs rs
theorem om.same {H H':Hp}(s:af H H'):∀{vs:List V} {rs:List Rs},om H vs rs->om H' vs rs
 | _,_,.nil=>.nil
 | _,_,.cons h t=>.cons (h.same s) (om.same s t)
theorem om.put {H:Hp}{l:Addr}{xs:List V}{o:HO}(hl:H l=some (.lst xs)):∀{vs:List V} {rs:List Rs},om H vs rs->om (upd H l o) vs rs
 | _,_,.nil=>.nil
 | _,_,.cons h t=>.cons (h.put hl) (om.put hl t)
theorem RV.sv {aA:Addr}{H:Hp}{v:V}{s:Sx}(h:RV H v (some s)):SV aA H v s:=by
 obtain⟨a,b⟩:=s
 obtain⟨p,e,h⟩:=h
 exact .inl ⟨p,e,h⟩
def mH (ss:List Str):PyData:=.tuple (ss.map fun x=>.tuple [.str x,.tuple [.int 0,.int 0]])
inductive wI  (vs:List V) (H:Hp) (Q:VK) (_:XK):Prop
 | mk (plv:V) (ps:List Piece) (xs:List Str) (m:Nat) (_:vs=[plv]) (_:aX H plv (eD ps)) (_:b8 xs m ps) (_:xs.length<64) (_:(bp ps).length<=4000) (_:∀(v:V) (ss:List Str) (H':Hp),aX H' v (mH ss)->ss.Perm (cI (bp ps))->sortedS ss=true->af H H'->Q v H')
theorem gI:∀ss:List Str,b4 (ss.map fun x=>PyData.tuple [.str x,.tuple [.int 0,.int 0]])=true
 | []=>rfl
 | x::ss=>by
  show (true&&b4 (ss.map fun x=>PyData.tuple [.str x,.tuple [.int 0,.int 0]]))=true
  rw [gI ss];rfl
theorem sD {T:Str->Sx}{e:End}{i k:Nat}{o:Option (Str->Sx)}(h1:(aV e)[i]?=some k)(h2:(hG T e)[i]?=some o) :
  (((aV e).zip (hG T e)).take (i+1)).filterMap (fun p=>p.2.map fun U=>(p.1,U))=(((aV e).zip (hG T e)).take i).filterMap (fun p=>p.2.map fun U=>(p.1,U))++(o.map fun U=>(k,U)).toList:=by
 have hz:((aV e).zip (hG T e))[i]?=some (k,o):=by rw [List.getElem?_zip_eq_some];exact⟨h1,h2⟩
 rw [GN,hz,List.filterMap_append]
 cases o <;> rfl
theorem fO {α β : Type}{F:α->β->Prop}{l:List α}{m:List β}(h:Paired F l m){i:Nat}{x:α}(e:l[i]?=some x):∃y,m[i]?=some y/\F x y:=LS.kH h e
theorem d8 {α β : Type}{F:α->β->Prop}:∀{l l':List α} {m m':List β},Paired F l m->Paired F l' m'->Paired F (l++l') (m++m')
 | _,_,_,_,.nil,h=>h
 | _,_,_,_,.cons r t,h=>.cons r (d8 t h)
section
variable {prog:Program}{w:World}{A:Around}{E:Value->Shared->Prop}{s:Shared}
theorem uE {l:Addr}{vs:List Value}{ns:List Int}{Q:Value->Shared->Prop}(hl:s.heap.IsList l vs.toArray)(hI:IntsAre vs ns)(h64:vs.length<64)
  (q:∀(h':Heap) (D:Addr) (out:Array Value) (ns':List Int) (e:Nat),(∀b o,s.heap.get? b=some o->h'.get? b=some o)->s.heap.objs.size<=D->h'.get? D=some { cls:=.type "list",data:=.seq out e } ->
   IntsAre out.toList ns'->ns'.Perm ns->ns'.Pairwise (· <= ·)->Q (.ref D) { s with heap:=h' }):wpAny (model prog w) A (call (.builtin "sorted") [.ref l]) Q E s:=by
 refine sorted_ints hl hI h64 fun out ns' a1 a2 a3=>?_
 unfold sortedAll
 generalize hg:((s.heap.push (seqObj "list" #[] 0)).update s.heap.objs.size (Obj.mapSeq (· ++ vs.toArray)))=g
 have hz:g.objs.size=s.heap.objs.size+1:=by rw [<-hg,Heap.size_update,size_push']
 have kp:∀b o,s.heap.get? b=some o->g.get? b=some o:=fun b o e=>by
  rw [<-hg]
  exact (Hg _ _ (Hk (Gm e))).trans (Gp _ e)
 have hoL:(g.push (seqObj "list" vs.toArray 0)).get? (s.heap.objs.size+1)=some (seqObj "list" vs.toArray 0):=by rw [<-hz];exact Gu _ rfl
 obtain⟨e,he⟩:=sortedHeap_at (out:=out) hoL
 refine q _ _ out ns' e (fun b o ho=>?_) (Hn _) he a1 a2 a3
 have h1:=kp b o ho
 have hlt:=Gm ho
 rw [sortedHeap_old (Gs (G6 hlt)) (by rw [size_push',hz];exact G6 (G6 hlt))]
 exact Gp _ h1
end
section
variable {X:Cx}
theorem sW:dW X (.builtin "sorted") (fun vs H Q=>∃(p:Addr) (ns:List Int),vs=[.ref p]/\aO X.K H p (ns.map V.int)/\ns.length<64 /\
  ∀(l:Addr) (ns':List Int),ns'.Perm ns->ns'.Pairwise (· <= ·)->H l=none->Q (.ref l) (upd H l (.lst (ns'.map V.int)))):=by
 intro pins s Gf H xs us Q I r h
 obtain⟨p,ns,rfl,hp,h64,q⟩:=h
 obtain⟨u,rfl,ru⟩:=vals1 r
 cases (show u=Value.ref p from ru)
 obtain⟨its,hv,pl,_⟩:=I.list hp
 have hi:=intsAre_of hv
 refine uE pl.isList hi (by have:=hv.length;rw [Gi] at this;omega) fun h' D out ns' e hkeep hD he hS hp' hs=>?_
 have hv':Vals (ns'.map V.int) out.toList:=iN hS
 refine⟨.ref D,_,I.laid (t':=s.toks) (o:=.lst (ns'.map V.int)) hkeep hD (show bM X.prog X.w _ h' _ (.lst (ns'.map V.int)) from ⟨?_,out.toList,e,hv',by simpa using he⟩),rfl,q D ns' hp' hs (I.aL.fresh hD)⟩
 rw [Gi,hp'.length_eq]
 exact Gr (GZ h64) (by decide)
end
def oZ (lo hi:Option Int):Rs:=match lo,hi with
 | some a,some b=>if b<a then none else some (some a,some b)
 | lo,hi=>some (lo,hi)
theorem zt (lo hi:Option Int)(n:Int):oZ lo (some (iS hi n))=gi lo hi n:=by
 cases lo <;> rfl
theorem AY (lo hi:Option Int)(n:Int):oZ (some (iT lo n)) hi=iF lo hi n:=by
 cases hi <;> rfl
theorem CF {lo hi:Option Int}{n:Int}(le:nZ lo hi):oZ (if lo=some n then some (n+1) else lo) (if hi=some n then some (n-1) else hi)=jn lo hi n:=by
 unfold jn
 by_cases h1:lo=some n
 ·rw [if_pos h1,if_pos h1]
  by_cases h2:hi=some n
  ·rw [if_pos h2,if_pos h2]
   show (if n-1<n+1 then none else _)=none
   rw [if_pos (by omega)]
  ·rw [if_neg h2,if_neg h2]
   subst h1
   cases hi with
   | none=>rfl
   | some h =>
    have:n<=h:=le
    have:¬h=n:=fun z=>h2 (by rw [z])
    show (if h<n+1 then none else _)=_
    rw [if_neg (by omega)]
 ·rw [if_neg h1,if_neg h1]
  by_cases h2:hi=some n
  ·rw [if_pos h2,if_pos h2]
   subst h2
   cases lo with
   | none=>rfl
   | some a =>
    have:a<=n:=le
    have:¬a=n:=fun z=>h1 (by rw [z])
    show (if n-1<a then none else _)=_
    rw [if_neg (by omega)]
  ·rw [if_neg h2,if_neg h2]
   cases lo with
   | none=>rfl
   | some a =>
    cases hi with
    | none=>rfl
    | some h =>
     have:a<=h:=le
     show (if h<a then none else _)=_
     rw [if_neg (by omega)]
inductive wJ  (vs:List V) (H:Hp) (Q:VK) (_:XK):Prop
 | mk (p:Addr) (b:Bool) (n:Int) (side:Bool) (lo hi:Option Int) (_:vs=[.ref p,.str (wT b),.int n,.bl side]) (_:H p=some (.tup [vO lo,vO hi])) (_:nZ lo hi) (_:∀v H',RV H' v (dP (wT b) lo hi n side)->af H H'->Q v H')
def TV (m:Nat)(H:Hp)(v:V)(p:Nat×(Str->Sx)):Prop:=∃q sv d,v=.ref q/\H q=some (.tup [sv,.int p.1,.ref d])/\LT H d p.2 m
def iQ (m:Nat)(H:Hp)(vs:List V)(ps:List (Nat×(Str->Sx))):Prop:=Paired (TV m H) vs ps
theorem LT.put {H:Hp}{d l:Addr}{T:Str->Sx}{m:Nat}{xs:List V}{o:HO}(h:LT H d T m)(hl:H l=some (.lst xs)):LT (upd H l o) d T m:=by
 refine h.aK (fun u e=>?_) fun p zs e=>by rw [ao (bw e hl (by intro z;cases z))];exact e
 obtain⟨kvs,ks,g,_⟩:=h
 rw [ao (bw g hl (by intro z;cases z))]
 exact e
theorem iQ.same {m:Nat}{H H':Hp}(s:af H H'):∀{vs:List V} {ps:List (Nat×(Str->Sx))},iQ m H vs ps->iQ m H' vs ps
 | _,_,.nil=>.nil
 | _,_,.cons ⟨q,sv,d,e,h1,h2⟩ t=>.cons ⟨q,sv,d,e,s _ _ h1,h2.same s⟩ (iQ.same s t)
theorem iQ.put {m:Nat}{H:Hp}{l:Addr}{xs:List V}{o:HO}(hl:H l=some (.lst xs)):∀{vs:List V} {ps:List (Nat×(Str->Sx))},iQ m H vs ps->iQ m (upd H l o) vs ps
 | _,_,.nil=>.nil
 | _,_,.cons ⟨q,sv,d,e,h1,h2⟩ t=>.cons ⟨q,sv,d,e,by rw [ao (bw h1 hl (by intro z;cases z))];exact h1,h2.put hl⟩ (iQ.put hl t)
inductive uF  (vs:List V) (H:Hp) (Q:VK) (_:XK):Prop
 | mk (d ea:Addr) (T:Str->Sx) (e:End) (m:Nat) (_:vs=[.ref d,.ref ea]) (_:LT H d T m) (_:m<=50) (_:(∀x,nZ (T x).1 (T x).2)) (_:H ea=some (.tup (eJ e))) (_:∀(l:Addr) (vs:List V) (H':Hp),H' l=some (.lst vs)->iQ (m+1) H' vs (cB T e)->af H H'->Q (.ref l) H')
inductive zu  (vs:List V) (H:Hp) (Q:VK) (_:XK):Prop
 | mk (plv:V) (ps:List Piece) (xs:List Str) (m:Nat) (_:vs=[plv]) (_:aX H plv (eD ps)) (_:b8 xs m ps) (_:xs.length<64) (_:∀(l:Addr) (ss:List Str) (H':Hp),H' l=some (.lst (ss.map V.str))->ss.Perm (cI (bp ps))->sortedS ss=true->ss.length<64->af H H'->Q (.ref l) H')
def KeysAre (kvs:List (Key×V))(ns:List Str):Prop:=kvs.map (·.1)=(cI ns).map Sum.inr
theorem xP (ns:List Str)(x:Str):cI (ns++[x])=LS.putIn (cI ns) x:=by unfold cI;rw [HY];rfl
theorem KeysAre.put {kvs:List (Key×V)}{ns:List Str}(h:KeysAre kvs ns)(x:Str)(v:V):KeysAre (putK kvs (Sum.inr x) v) (ns++[x]):=by
 unfold KeysAre at h ⊢
 rw [xP]
 unfold LS.putIn
 rcases mi (kvs:=kvs) (k:=(Sum.inr x:Key)) (v:=v) with ⟨e1,hm⟩ | ⟨e1,hn⟩
 ·rw [h] at hm
  obtain⟨y,hy,e⟩:=GL.mp hm
  cases e
  rw [if_pos hy,e1,h]
 ·rw [if_neg (fun z=>hn (by rw [h];exact GL.mpr ⟨x,z,rfl⟩)),e1,h,GF];rfl
theorem KeysAre.len {kvs:List (Key×V)}{ns:List Str}(h:KeysAre kvs ns):kvs.length=(cI ns).length:=by have:=congrArg Hb h;simpa using this
theorem AZ {ns xs:List Str}(h:∀x∈ns,x∈xs):(cI ns).length<=xs.length:=sub_len (oR _) fun x hx=>h x (jK.mp hx)
theorem CG {xs:List Str}{m:Nat}{ps:List Piece}(ok:b8 xs m ps):(bp ps).length<=ps.length*(2*m+1):=by
 unfold bp
 have h:∀p∈ps,(pNames p).length<=2*m+1:=fun p hp=>by
  have h1:=(ok.gU p hp).1
  unfold pNames
  rw [Gq]
  have h2:(p.1.flatMap cw).length<=2*p.1.length:=by
   induction p.1 with
   | nil=>simp
   | cons d ds ih =>
    rw [List.flatMap_cons,Gq,G0]
    have:(cw d).length<=2:=by cases d <;> simp [cw]
    omega
  have h3:(gm p.2).length<=1:=by cases p.2 <;> simp [gm]
  omega
 clear ok
 induction ps with
 | nil=>simp
 | cons p ps ih =>
  rw [List.flatMap_cons,Gq,G0]
  have h1:=h p (Gx ..)
  have h2:=ih fun q hq=>h q (Gv _ hq)
  rw [Nat.add_mul]
  omega
theorem vm {K:Gh}{cd:Value}{q:Str}(h:HC K cd q=true):ID K cd=true:=by
 unfold HC at h
 unfold ID
 split at h
 ·split at h
  ·rename_i ho
   dsimp only
   rw [ho]
  ·cases h
 ·cases h
theorem CH {prog:Program}{w:World}{A:Around}{E:Value->Shared->Prop}{s:Shared}{Q:Value->Shared->Prop}(q:Q (.ref s.heap.objs.size) { s with heap:=s.heap.push (du w) }):wpAny (model prog w) A (newSet (.type "set")) Q E s:=by
 unfold newSet setsByText
 refine IW (IW (Jy (IX ?_)))
 dsimp only
 simp only [newObj]
 first
  | exact Jt (IX q)
  | exact IW (Jt (IX q))
  | exact IW (Jt (IX (IX q)))
  | exact IW (Jt q)
section
variable {X:Cx}
theorem CI {e:Expr}{k:Nat}{pos:Pos}{te:TE}(hc:ID X.K X.env.code=true)(he:PE X e te)(hk:displayRoad k [e]=.oneByOne:=by rfl)(hs:starEach [e] X.env=[(false,eval e X.env)]:=by rfl) :
  PE X (.Set [e] k pos) (fun Gf H Q=>∀l,H l=none->te Gf (upd H l (cK X.prog X.w l [])) fun x H1=>H1 l=some (cK X.prog X.w l [])/\∃kk,x=kV kk/\Q (.ref l) (upd H1 l (cK X.prog X.w l [kk]))):=by
 intro pins s Gf H Q I h
 rw [arm_eval_Set]
 refine IW (Jn ?_)
 refine IW (PySem.W.kds_main I.en hc fun b=>?_)
 rw [hs,hk]
 unfold setDisplay
 dsimp only
 rw [if_neg (by decide)]
 refine IW (CH ?_)
 dsimp only
 simp only [GK,Il,G0,Ip,Nat.reduceAdd,gt_iff_lt,Nat.reduceLT,if_false,List.findIdx?_cons,List.findIdx?_nil,Option.map_none,Option.getD_none,List.take_succ_cons,List.take_zero,List.drop_succ_cons,List.drop_nil,evalAll,Hh]
 have hS:eM (aQ X.prog X.w) (s.heap.push (du X.w)) s.heap.objs.size []:=mj rfl (Gu _ rfl)
 have I1:Inv X pins Gf (upd H s.heap.objs.size (cK X.prog X.w s.heap.objs.size [])) { s with heap:=s.heap.push (du X.w) }:=I.laid (t':=s.toks) (fun b o e=>Gp _ e) (Gj _) (ki hS)
 refine IW (IZ ?_)
 refine IW (IW (IW (bB (he pins _ Gf _ _ I1 (h _ I.fresh)) fun v s1 ⟨x,H1,I2,rx,hl1,kk,ex,q⟩=>IW (Jn (IX ?_)))))
 subst ex
 refine IW (IZ (IX (IX ?_)))
 refine IW (IZ ?_)
 simp only [HD,Iu]
 refine IW (IW (IW (qY (nu rx) (I2.qX hl1) (by decide) fun h' b S' c=>IX ?_)))
 refine IX ?_
 rw [if_neg (by decide)]
 refine IX ?_
 refine IW (IX (IX (IX ?_)))
 have e1:LS.putIn ([]:List Key) kk=[kk]:=by unfold LS.putIn;rw [if_neg (by simp)];rfl
 rw [e1] at S'
 refine⟨.ref s.heap.objs.size,_,I2.write (t':=s1.toks+1) (x:=s.heap.objs.size) (e:=s.heap.objs.size) (by rw [hl1];exact trivial) (.inl rfl) (fun c u' hc hu=>b.extBut c u' hc hu) ?_ (ki S'),rfl,q⟩
 obtain⟨o,_,_,_,So⟩:=S'
 exact⟨o,So.at_⟩
end
section
variable {prog:Program}{w:World}{A:Around}{E:Value->Shared->Prop}{s:Shared}
theorem zv {d:Addr}(hd:(d == sysModules)=false) :
  MeetsIn prog w (Builtin.«dict.__len__» ⟨[.ref d],[]⟩) (fun _ R s=>∃(o:Obj) (es:Array DictEntry) (ep:Nat),s.heap.get? d=some o/\o.data=.dict es ep/\R (.ok (.ret (.int es.size s.toks))) { s with toks:=s.toks+1 }) :=
 .of_wp fun A R s ⟨o,es,ep,ho,hdat,h⟩=>by
  show wpAny _ _ (dictSize d >>= _) _ _ s
  unfold dictSize
  refine IW (IW (wpAny_dictEntries ho hdat (IX ?_)))
  show wpAny _ _ (Builtin.Dict.pendingCount d >>= _) _ _ s
  refine IW (wpAny_pendingCount_other hd ?_)
  refine wpAny_ret_mkInt ?_
  rw [Nat.add_zero];exact h
theorem CJ {d:Addr}{o:Obj}{es:Array DictEntry}{ep:Nat}{Q:Value->Shared->Prop}(hd:(d == sysModules)=false)(ho:s.heap.get? d=some o)(hc:o.ExactDict)(hdat:o.data=.dict es ep)(hfit:(es.size:Int)<2 ^ 63)
  (h:Q (.int es.size (s.toks+1)) { s with toks:=s.toks+1+1 }):wpAny (model prog w) A (call (.builtin "len") [.ref d]) Q E s:=by
 refine Calls.call_function_entry kind_len plain_len entry_len (args_len1 _) ?_
 have hT:s.TypeIs (.ref d) "dict" := ⟨o,ho,hc.1⟩
 unfold Builtin.«len»
 refine IW (m:=oneArg "len" _) (IX ?_)
 refine IW (m:=callSpecial? (.ref d) (Str.ofString "__len__")) (wpAny_callSpecial?_slot (name:=Str.ofString "__len__") hT F.slot_dict_len
  (call_meetsIn F.slot_dict_len hT F.entry_dict_len (F.args_dict_len_1 _) (zv hd) ⟨o,es,ep,ho,hdat,?_⟩))
 show wpAny _ _ _ _ _ { s with toks:=s.toks+1 }
 refine IW (IZ (IX ?_))
 refine IW (wpAny_letGo ?_)
 show wpAny _ _ (if ((es.size:Nat):Int)<0 then _ else _) _ _ _
 rw [if_neg (by omega)]
 show wpAny _ _ (if ((es.size:Nat):Int) >= 2 ^ 63 then _ else _) _ _ _
 rw [if_neg (by omega)]
 exact IW (wpAny_mkInt (IX ⟨_,rfl,h⟩))
end
section
variable {X:Cx}
theorem xQ:dW X (.builtin "len") (fun xs H Q=>∃a kvs,xs=[V.ref a]/\H a=some (fk X.prog X.w a kvs)/\Q (.int kvs.length) H):=by
 intro pins s Gf H xs us Q I r h
 obtain⟨a,kvs,rfl,ha,q⟩:=h
 obtain⟨u,rfl,ru⟩:=vals1 r
 cases ru
 obtain⟨h1,h2,xs,o,es,ep,g1,g2,g3,g4,g5,g6⟩:=(show mD X.prog X.w a kvs s.heap from (I.aL a _ ha).1)
 have hz:es.size=kvs.length:=by rw [g6.len,<-G7,g4,Gi]
 have hn:=iL
 refine CJ h1 g1 g2 g3 (by omega) ?_
 rw [hz]
 exact⟨.int _,H,I.tok _,⟨_,rfl⟩,q⟩
theorem A0 {pos:Pos}{keys:List (Option Expr)}{values:List Expr}{trs:List (TE×TE)}(hu:X.A.units+66<cLine)(h:Bz X pos keys values trs)(hall:keys.all (·.isSome)=true)(hl:keys.length=values.length)(h0:keys≠[])
  (h15:keys.length<=15):PE X (.Dict keys values pos) (fun Gf H Q=>∀p,H p=none->ua trs Gf (upd H p (fk X.prog X.w p [])) fun ps H2=>H2 p=some (fk X.prog X.w p [])/\∃k v d,ps=[(.ref k,v)]/\eN d/\aX H2 (.ref k) d/\Q (.ref p) (upd H2 p (fk X.prog X.w p [(d,k,v)]))):=by
 intro pins s Gf H Q I q
 have hn:=I.aL.fresh (Gj s.heap.objs.size)
 obtain⟨_,hb,_⟩:=(show bM X.prog X.w H _ s.heap.objs.size (.dK []) from t9 s.heap I.big)
 have D0:mD X.prog X.w s.heap.objs.size [] (s.heap.push { cls:=.type "dict",data:=.dict #[] }):=⟨hb,GI _,[],_,#[],0,Gu _ rfl,⟨rfl,rfl,rfl⟩,rfl,rfl,Hi,.nil⟩
 have I1:=I.laid (a:=s.heap.objs.size) (o:=fk X.prog X.w s.heap.objs.size []) (h':=s.heap.push { cls:=.type "dict",data:=.dict #[] }) (t':=s.toks) (fun _ _ q=>Gp _ q) (Gj _) (oW D0)
 refine wpAny_Dict_any hall hl h0 h15 (bB (h pins _ Gf _ _ I1 (q _ hn)) fun ws s2 ⟨ps,H2,I2,rel,e,k,v,d,ep,hk,r,q2⟩=>?_)
 subst ep
 cases rel with
 | @cons _ wp _ _ hr t =>
 cases t
 obtain⟨wk,wv⟩:=wp
 obtain⟨r1,r2⟩:=hr
 cases (show wk=Value.ref k from r1)
 obtain⟨hd0,_,xs,kx,dd⟩:=qi I2 e (fun p hp=>nomatch hp)
 cases kx
 unfold storeAll
 simp only [HD,Iu]
 refine IW (IW (wpAny_dictSet_heap (knd:=jt X.prog X.w) (show X.A.units+64<cLine by omega) (key_is I2 hk r) dd (fun h' hm' hs'=>IX (IX ?_)) (GI _)))
 obtain⟨o',es,ep,g1,g2,g3,g4,g5,g6⟩:=id hm'
 refine⟨.ref s.heap.objs.size,_,I2.write (t':=_) (x:=s.heap.objs.size) (e:=s.heap.objs.size) (by rw [e];exact trivial) (.inl rfl) (fun c u' hc hu=>(hs'.2 c hc).trans hu) ⟨o',g1⟩ (oW ⟨hd0,(by show 1<=sizeLine;decide),[(d,k,wv)],o',es,ep,g1,g2,g3,g4,g6,.cons ⟨rfl,rfl,r2⟩ .nil⟩),rfl,q2⟩
end
open Classical in
noncomputable def oo (h:Heap) (d:PyData) (u:Value):Bool:=if z:∃(e:PyData) (as:List Addr),(eT e=true/\e.canLay0=true/\e.depth<=7)/\Reads h u e as then decide (z.choose=d) else false
theorem uG {h:Heap}{d e:PyData}{u:Value}{as:List Addr}(r:Reads h u e as)(k:eN e):oo h d u=decide (e=d):=by
 have z:∃(e:PyData) (as:List Addr),(eT e=true/\e.canLay0=true/\e.depth<=7)/\Reads h u e as:=⟨e,as,⟨k.key,k.lay,k.dep⟩,r⟩
 unfold oo
 rw [dif_pos z]
 obtain⟨as',hk,r'⟩:=z.choose_spec
 rw [mB r' r hk.1 k.key]
theorem Ea {s:Shared}{A:Around}{d e:PyData}{u v:Value}{as bs:List Addr}(hu:A.units+64<cLine)(r:Reads s.heap u e as)(k:eN e)(rv:Reads s.heap v d bs)(kd:eN d):SeqAt.EqAt A s u v (oo s.heap d u):=by
 rw [uG r k]
 have h:=PySem.SeqAt.eqAt_reads e d A s u v _ _ r rv k.lay kd.lay (by have:=k.dep;omega)
 have e':PyData.eqv e d=decide (e=d):=by
  have:=rg k.key kd.key
  by_cases hxy:e=d
  ·rw [decide_eq_true hxy];exact this.mpr hxy
  ·rw [decide_eq_false hxy];exact IA.mpr fun z=>hxy (this.mp z)
 rw [e'] at h
 exact h
inductive i0 (h:Heap):List Value->List PyData->Prop
 | nil:i0 h [] []
 | cons {u:Value} {us:List Value} {d:PyData} {ds:List PyData} (as:List Addr):Reads h u d as->eN d->i0 h us ds->i0 h (u::us) (d::ds)
theorem uH {P:Program}{w:World}{H:Hp}{h:Heap}(ok:dn P w H h):∀{xs:List V} {us:List Value} {ds:List PyData},Vals xs us->bu H xs ds->(∀d∈ds,eN d)->i0 h us ds
 | _,_,_,.nil,.nil,_=>.nil
 | _,_,_,.cons r t,.cons r1 t1,hk=>by
  obtain⟨as,ra⟩:=r1.reads ok r
  exact .cons as ra (hk _ (Gx ..)) (uH ok t t1 fun d hd=>hk d (Gv _ hd))
theorem i0.any {h:Heap}{d:PyData}:∀{us:List Value} {ds:List PyData},i0 h us ds->us.any (oo h d)=decide (d∈ds)
 | _,_,.nil=>by simp
 | _,_,.cons as r k t=>by
  rw [HH,uG r k,i0.any t]
  rename_i e ds
  by_cases h1:e=d
  ·subst h1;simp
  ·rw [decide_eq_false h1,Bool.false_or]
   have:d∈e::ds↔d∈ds:=by rw [Gn];exact⟨fun h=>h.resolve_left fun z=>h1 z.symm,.inr⟩
   simp only [this]
theorem i0.at_ {s:Shared}{A:Around}{d:PyData}{v:Value}{bs:List Addr}(hu:A.units+64<cLine)(rv:Reads s.heap v d bs)(kd:eN d):∀{us:List Value} {ds:List PyData},i0 s.heap us ds->∀u∈us,SeqAt.EqAt A s u v (oo s.heap d u)
 | _,_,.nil,u,hu'=>nomatch hu'
 | _,_,.cons as r k t,u,hu'=>by
  rcases Gn.mp hu' with rfl | hu'
  ·exact Ea hu r k rv kd
  ·exact i0.at_ hu rv kd t u hu'
theorem i0.len {h:Heap}:∀{us:List Value} {ds:List PyData},i0 h us ds->us.length=ds.length
 | _,_,.nil=>rfl
 | _,_,.cons _ _ _ t=>congrArg (· + 1) t.len
theorem i0.get {h:Heap}{d:PyData}:∀{us:List Value} {ds:List PyData},i0 h us ds->∀m (hm:m<us.length) (hm':m<ds.length),oo h d us[m]=decide (ds[m]=d)
 | _,_,.nil,m,hm,_=>absurd hm (Nat.not_lt_zero _)
 | _,_,.cons as r k t,0,_,_=>uG r k
 | _,_,.cons as r k t,m+1,hm,hm'=>t.get m (Nat.lt_of_succ_lt_succ hm) (Nat.lt_of_succ_lt_succ hm')
section
variable {X:Cx}
inductive EL (K:Gh) (neg:Bool) (x:V) (y:V) (H:Hp) (Q:VK):Prop
 | mk (p xs ds d:_) (_:y=.ref p) (_:aO K H p xs) (_:bu H xs ds) (_:(∀e∈ds,eN e)) (_:aX H x d) (_:eN d) (_:Q (.bl (if neg then !decide (d∈ds) else decide (d∈ds))) H)
theorem qo (hu:X.A.units+66<cLine):eG X (compareOp .NotIn) (EL X.K true):=by
 intro pins s Gf H x y v u Q I rx ry h
 obtain⟨p,xs,ds,d,rfl,hq,rd,hk,r,kd,q⟩:=h
 cases ry
 obtain⟨its,rv,pl,hz⟩:=I.list hq
 obtain⟨bs,rb⟩:=r.reads I.aL rx
 have it:=uH I.aL rv rd hk
 refine SeqAt.notIn_listAt (oo s.heap d) pl.isList (fun w hw=>i0.at_ (by first | (rw [HM];omega) | omega) rb kd it w (by simpa using hw)) ⟨.bl _,H,I,rfl,?_⟩
 rw [show its.toArray.any (oo s.heap d)=its.any (oo s.heap d) by simp,it.any]
 exact q
inductive CK  (x:V) (vs:List V) (H:Hp) (Q:VK):Prop
 | mk (l:Addr) (xs:List V) (ds:List PyData) (y:V) (d:PyData) (_:x=.ref l) (_:vs=[y]) (_:H l=some (.lst xs)) (_:bu H xs ds) (_:(∀e∈ds,eN e)) (_:aX H y d) (_:eN d) (_:d∈ds) (_:Q (.int (ds.idxOf d:Nat)) H)
theorem zw (hu:X.A.units+66<cLine):vV X "list.index" CK:=by
 intro pins s Gf H x vs v us Q I rx rv h
 obtain⟨l,xs,ds,y,d,rfl,rfl,hH,rd,hk,r,kd,hm,q⟩:=h
 cases rx
 obtain⟨u,rfl,ru⟩:=rv.one
 obtain⟨z,its,n,rvs,hl,e⟩:=I.tU hH
 obtain⟨bs,rb⟩:=r.reads I.aL ru
 have it:=uH I.aL rvs rd hk
 have hln:=it.len
 have hj:ds.idxOf d<ds.length:=List.idxOf_lt_length_of_mem hm
 refine call_meets F.slot_list_index ⟨_,e,rfl⟩ F.entry_list_index (F.args_list_index_2 _ _)
  (SeqAt.list_indexAt l its.toArray n none #[] u (oo s.heap d) (ds.idxOf d) (by rw [GC];omega) (by have:=iL;omega) ?_ ?_) ⟨e,fun y hy=>i0.at_ (by first | (rw [HM,HM];omega) | (rw [HM];omega) | omega) rb kd it y (by simpa using hy),?_⟩
 ·rw [show its.toArray[ds.idxOf d]'(by rw [GC];omega)=its[ds.idxOf d]'(by omega) from rfl,it.get _ (by omega) hj]
  exact decide_eq_true (List.getElem_idxOf hj)
 ·intro m hm1 hlt
  rw [GC] at hm1
  rw [show its.toArray[m]=its[m]'hm1 from rfl,it.get m hm1 (by omega)]
  refine decide_eq_false fun z=>?_
  have:=List.not_of_lt_findIdx (p:=(· == d)) (xs:=ds) hlt
  rw [z] at this
  simp at this
 ·exact⟨.int _,H,I.EV,⟨_,rfl⟩,q⟩
end
section
variable {prog:Program}{w:World}{A:Around}{E:Value->Shared->Prop}{s:Shared}
end
section
variable {X:Cx}{pins:List (Addr×Obj)}{Gf : List (Option V)}{H:Hp}{s:Shared}
end
theorem mI {A:Around}{k:Nat}(hr:de k A):A.units+66<cLine:=by have:=hr.un;omega
section
variable {P:Program}{w:World}{K:Gh}{mg:Str->Option Value}{base:Heap}
theorem b0.F7 {x qual:Str}{st:Stmt}{f:Addr}{fd:FuncData}{N ps:List Str}{k:Nat}{sp:Sp}(F:b0 K x qual st f fd)(S:aR N ps (aw st))(len:∀vs H Q E,sp vs H Q E->vs.length=ps.length)
  (hbody:∀(cdv:Value) (A:Around) (outer:List Env) (s:Shared) (H:Hp) (vs:List V) (Q:VK) (E:XK),ID K cdv=true->de k (A.deeper (envOfC qual (aw st) s.heap.objs.size f cdv))->sp vs H Q E ->
   ∃t,fX (ff bX P w K mg base N qual (aw st) f cdv A outer s H E).nS (dt st) t/\t { nx:=fun _ H'=>Q .aZ H',rt:=Q } (start N vs) H):bA P w K mg base bX (k+1) f fd ps sp:=by
 obtain⟨oc,od,kV,doc,pm,an,cdv,ct,osl,rfl,lk,hcd⟩:=F.ex
 refine xi lk hcd S len fun A outer s H vs Q E hr hsp=>?_
 obtain⟨t,h,q⟩:=hbody cdv A outer s H vs Q E (vm hcd) hr hsp
 exact⟨t,h.nS,q⟩
end
def dE:Nat->List (PyData×Addr)->List (PyData×Addr×V)
 | _,[]=>[]
 | n,p::ps=>(p.1,p.2,.int (n:Nat))::dE (n+1) ps
theorem o1:∀(n:Nat) (ms:List (PyData×Addr)),(dE n ms).length=ms.length
 | _,[]=>rfl
 | n,_::ms=>congrArg (· + 1) (o1 (n+1) ms)
theorem uI:∀(n:Nat) (ms:List (PyData×Addr)) (p:PyData×Addr),dE n (ms++[p])=dE n ms++[(p.1,p.2,.int ((n+ms.length:Nat):Int))]
 | n,[],p=>rfl
 | n,q::ms,p=>by
  show (q.1,q.2,V.int (n:Nat))::dE (n+1) (ms++[p])=_
  rw [uI (n+1) ms p,show n+1+ms.length=n+(q::ms).length by rw [G0];omega]
  rfl
theorem uJ:∀(n:Nat) (ms:List (PyData×Addr)),∀q∈dE n ms,∃p∈ms,q.1=p.1/\q.2.1=p.2
 | _,[],q,hq=>nomatch hq
 | n,p::ms,q,hq=>by
  rcases Gn.mp hq with rfl | hq
  ·exact⟨p,Gx ..,rfl,rfl⟩
  ·obtain⟨p',hp,r⟩:=uJ (n+1) ms q hq
   exact⟨p',Gv _ hp,r⟩
theorem kK (d:PyData):∀(n:Nat) (ms:List (PyData×Addr)),eZ (dE n ms) d=if d∈ms.map (·.1) then some (.int ((n+(ms.map (·.1)).idxOf d:Nat):Int)) else none
 | n,[]=>by simp [dE,eZ]
 | n,p::ms=>by
  have ih:=kK d (n+1) ms
  by_cases h:p.1=d
  ·have e1:eZ (dE n (p::ms)) d=some (.int (n:Nat)):=by
    unfold eZ dE
    rw [IU (by exact decide_eq_true h)]
    rfl
   rw [e1,if_pos (by rw [GK,h];exact Gx ..),GK,h,List.idxOf_cons_self]
   rfl
  ·have e1:eZ (dE n (p::ms)) d=eZ (dE (n+1) ms) d:=by
    show eZ ((p.1,p.2,V.int (n:Nat))::dE (n+1) ms) d=_
    unfold eZ
    rw [IV (by rw [decide_eq_false h];decide)]
   rw [e1,ih,GK]
   by_cases hm:d∈ms.map (·.1)
   ·rw [if_pos hm,if_pos (Gv _ hm),List.idxOf_cons,beq_false_of_ne h]
    simp only [cond_false]
    congr 3
    omega
   ·rw [if_neg hm,if_neg (fun z=>(Gn.mp z).elim (fun z=>h z.symm) hm)]
structure hJ (P:Program) (w:World) (C:Addr) (H:Hp) (r m d:Addr) (ms:List (PyData×Addr)):Prop where
 ob:∃dx,H r=some (.ins C dx (rh (.ref m) (.ref d)))
 mem:H m=some (.lst (ms.map fun p=>V.ref p.2))
 mJ:H d=some (fk P w d (dE 0 ms))
 keys:∀p∈ms,eN p.1/\aX H (.ref p.2) p.1
noncomputable def kL (ms:List (PyData×Addr)) (d:PyData) (k:Addr):List (PyData×Addr):=if d∈ms.map (·.1) then ms else ms++[(d,k)]
section
variable {P:Program}{w:World}{C r m d:Addr}{H H':Hp}{ms:List (PyData×Addr)}
theorem hJ.jE (A:hJ P w C H r m d ms):BI H (dE 0 ms):=fun q hq=>by
 obtain⟨p,hp,e1,e2⟩:=uJ 0 ms q hq
 rw [e1,e2]
 exact A.keys p hp
theorem hJ.F8 (A:hJ P w C H r m d ms):r≠m/\r≠d/\d≠m:=by
 obtain⟨dx,h1⟩:=A.ob
 refine⟨bw h1 A.mem ?_,bw h1 A.mJ ?_,bw A.mJ A.mem ?_⟩ <;> (intro z;cases z)
end
section
variable (P:Program)(w:World)(C:Addr)
inductive qp  (vs:List V) (H:Hp) (Q:VK) (_:XK):Prop
 | mk (r dx k:Addr) (d0:PyData) (_:vs=[.ref r,.ref k]) (_:H r=some (.ins C dx [])) (_:eN d0) (_:aX H (.ref k) d0) (_:cq d0=true) (_:∀(m d:Addr) (H':Hp),hJ P w C H' r m d [(d0,k)]->(∀c o,H c=some o->c≠r->H' c=some o)->H m=none->H d=none->Q .aZ H')
inductive qr  (vs:List V) (H:Hp) (Q:VK) (_:XK):Prop
 | mk (r m d k:Addr) (d0:PyData) (ms:List (PyData×Addr)) (_:vs=[.ref r,.ref k]) (_:hJ P w C H r m d ms) (_:ms.length<=1000) (_:eN d0) (_:aX H (.ref k) d0) (_:cq d0=true) (_:(∀p∈ms,cq p.1=true)) (_:∀H',hJ P w C H' r m d (kL ms d0 k)->kJ m d H H'->Q (.int (((kL ms d0 k).map (·.1)).idxOf d0:Nat)) H')
end
inductive iV (ps:List Piece):Nat->Prop
 | zero:iV ps 0
 | step {i k:Nat} {ds:List di} {e:End}:iV ps i->ps[i]?=some (ds,e)->k∈aV e->iV ps k
def bo (ps:List Piece)(k:Nat):Prop:=∃i ds e,iV ps i/\ps[i]?=some (ds,e)/\k∈aV e/\k<=i
abbrev kI (ks:List Nat):List Key:=ks.map fun k:Nat=>(Sum.inl (k:Int):Key)
theorem uK {ks:List Nat}{k:Nat}:(Sum.inl (k:Int):Key)∈kI ks↔k∈ks:=by
 rw [GL]
 constructor
 ·rintro⟨x,hx,e⟩
  have:=Sum.inl.inj e
  rw [show k=x by omega];exact hx
 ·intro h;exact⟨k,h,rfl⟩
theorem uL {ks:List Nat}{k:Nat}:LS.putIn (kI ks) (Sum.inl (k:Int))=kI (LS.putIn ks k):=by
 unfold LS.putIn
 by_cases h:k∈ks
 ·rw [if_pos h,if_pos (uK.mpr h)]
 ·rw [if_neg h,if_neg (fun z=>h (uK.mp z))]
  show _=(ks++[k]).map _
  rw [GF];rfl
theorem rn (ks:List Nat):kI ks=(ks.map fun k:Nat=>(k:Int)).map Sum.inl:=by rw [HK];rfl
structure xR (ps:List Piece) (ks ws:List Nat):Prop where
 nd:ks.Nodup
 lt:∀k∈ks,k<ps.length
 uM:∀k∈ks,iV ps k
 zero:0∈ks
 sub:∀k∈ws,k∈ks
 done:∀k∈ks,k∈ws\/∀ds e,ps[k]?=some (ds,e)->∀j∈aV e,j∈ks
theorem xR.all {ps:List Piece}{ks:List Nat}(h:xR ps ks []):∀k,k∈ks↔iV ps k:=fun k=>by
 refine⟨h.uM k,fun r=>?_⟩
 induction r with
 | zero=>exact h.zero
 | step r hp hk ih=>exact (h.done _ ih).elim (fun z=>nomatch z) fun z=>z _ _ hp _ hk
theorem nB {ps:List Piece}(hin:kf ps){i:Nat}{ds:List di}{e:End}(h:ps[i]?=some (ds,e)):∀k∈aV e,k<ps.length:=fun k hk=>by
 have h1:=hin _ (GB h)
 cases e with
 | stop=>cases hk
 | go p=>rw [Gk.mp hk];exact h1
 | cF b x n p q =>
  rcases Gn.mp hk with z | z
  ·rw [z];exact h1.1
  ·rw [Gk.mp z];exact h1.2
inductive sE  (vs:List V) (H:Hp) (Q:VK) (_:XK):Prop
 | mk (plv:V) (ps:List Piece) (_:vs=[plv]) (_:aX H plv (eD ps)) (_:kf ps) (_:0<ps.length) (_:ps.length<=60) (_:∀(t:Addr) (ks:List Nat) (H':Hp),H' t=some (.tup (vN ks))->(∀k,k∈ks↔iV ps k)->(∀k∈ks,k<ps.length)->ks.length<=60->af H H'->Q (.ref t) H')
inductive wK  (vs:List V) (H:Hp) (Q:VK) (_:XK):Prop
 | mk (plv:V) (ps:List Piece) (_:vs=[plv]) (_:aX H plv (eD ps)) (_:kf ps) (_:0<ps.length) (_:ps.length<=60) (_:∀(t:Addr) (ks:List Nat) (H':Hp),H' t=some (.tup (vN ks))->(∀k,k∈ks↔bo ps k)->ks.length<=60->af H H'->Q (.ref t) H')
theorem hR {ss:List Int}{ks:List Nat}(h:ss.Perm (ks.map fun k:Nat=>(k:Int))):∃ms:List Nat,ss=ms.map (fun k:Nat=>(k:Int))/\ms.Perm ks:=by
 refine⟨ss.map HN,?_,?_⟩
 ·rw [HK]
  have:∀x∈ss,((fun k:Nat=>(k:Int)) ∘ HN) x=x:=fun x hx=>by
   obtain⟨k,_,rfl⟩:=GL.mp (h.mem_iff.mp hx)
   show ((HN (k:Int):Nat):Int)=k
   omega
  rw [Ir this,List.map_id']
 ·have:=h.map HN
  rw [HK] at this
  have e:ks.map (HN ∘ fun k:Nat=>(k:Int))=ks:=by
   rw [Ir (g:=id) (fun x _=>by show HN (x:Int)=x;omega),List.map_id]
  rw [e] at this
  exact this
abbrev Cp:=Nat×(Str->Sx)
def T0:Str->Sx:=fun _=>cQ
def FD (T:Str->Sx)(d:PyData):Prop:=∃ss:List Str,jq ss/\(∀x,x∈ss↔T x≠cQ)/\d=fM T ss
theorem FV.fd {H:Hp}{v:V}{T:Str->Sx}(h:FV H v T):∃d,FD T d/\aX H v d:=by
 obtain⟨p,xs,ss,rfl,hp,srt,hm,r⟩:=h
 exact⟨_,⟨ss,srt,hm,rfl⟩,.tup hp r⟩
theorem FD.fv {H:Hp}{v:V}{T:Str->Sx}{d:PyData}(h:FD T d)(r:aX H v d):FV H v T:=by
 obtain⟨ss,srt,hm,rfl⟩:=h
 obtain⟨p,xs,rfl,hp,r⟩:=aX.bP r
 exact⟨p,xs,ss,rfl,hp,srt,hm,r⟩
theorem FD.unique {T:Str->Sx}{d d':PyData}(h:FD T d)(h':FD T d'):d=d':=by
 obtain⟨ss,srt,hm,rfl⟩:=h
 obtain⟨ss',srt',hm',rfl⟩:=h'
 rw [srt.unique srt' fun x=>by rw [hm,hm']]
theorem zx {a b:Option Int}(h:dO a=dO b):a=b:=by
 cases a with
 | none=>cases b with
  | none=>rfl
  | some _=>cases h
 | some i=>cases b with
  | none=>cases h
  | some j=>injection h with h;rw [h]
theorem Eb {a b:Sx}(h:dS a=dS b):a=b:=by
 obtain⟨a1,a2⟩:=a
 obtain⟨b1,b2⟩:=b
 have h1:[dO a1,dO a2]=[dO b1,dO b2]:=by injection h
 injection h1 with h1 h2
 injection h2 with h2 _
 rw [zx h1,zx h2]
theorem wL {T T':Str->Sx}:∀{ss ss':List Str},ss.map (dF T)=ss'.map (dF T')->ss=ss'/\∀x∈ss,T x=T' x
 | [],[],_=>⟨rfl,fun _ h=>nomatch h⟩
 | [],_::_,h=>by cases h
 | _::_,[],h=>by cases h
 | x::ss,y::ss',h=>by
  rw [GK,GK] at h
  injection h with h1 h2
  have h3:[PyData.str x,dS (T x)]=[PyData.str y,dS (T' y)]:=by injection h1
  injection h3 with h4 h5
  injection h5 with h5 _
  have exy:x=y:=by injection h4
  subst exy
  obtain⟨e,hr⟩:=wL h2
  refine⟨by rw [e],fun z hz=>?_⟩
  rcases Gn.mp hz with rfl | hz
  ·exact Eb h5
  ·exact hr z hz
theorem FD.inj {T T':Str->Sx}{d:PyData}(h:FD T d)(h':FD T' d):T=T':=by
 obtain⟨ss,srt,hm,rfl⟩:=h
 obtain⟨ss',srt',hm',e⟩:=h'
 have e':ss.map (dF T)=ss'.map (dF T'):=by injection e
 obtain⟨rfl,hx⟩:=wL e'
 funext x
 by_cases h:x∈ss
 ·exact hx x h
 ·have h1:T x=cQ:=Classical.byContradiction fun z=>h ((hm x).mpr z)
  have h2:T' x=cQ:=Classical.byContradiction fun z=>h ((hm' x).mpr z)
  rw [h1,h2]
theorem FD.zero:FD T0 (.tuple []):=⟨[],⟨Hx.nil,Hi⟩,fun x=>⟨fun h=>(nomatch h),fun h=>absurd rfl h⟩,rfl⟩
def CD (c:Cp)(d:PyData):Prop:=∃fd,FD c.2 fd/\d=.tuple [.int (c.1:Nat),fd]
theorem CD.iff {c c':Cp}{d d':PyData}(h:CD c d)(h':CD c' d'):d=d'↔c=c':=by
 obtain⟨fd,hf,rfl⟩:=h
 obtain⟨fd',hf',rfl⟩:=h'
 constructor
 ·intro e
  have e1:[PyData.int (c.1:Nat),fd]=[PyData.int (c'.1:Nat),fd']:=by injection e
  injection e1 with e2 e3
  injection e3 with e3 _
  have e4:(c.1:Int)=(c'.1:Int):=by injection e2
  subst e3
  exact Prod.ext (by omega) (hf.inj hf')
 ·rintro rfl
  rw [hf.unique hf']
noncomputable instance EY:DecidableEq Cp:=fun a b=>Classical.propDecidable (a=b)
theorem CD.mem {c:Cp}{d:PyData}(h:CD c d):∀{ds:List PyData} {cs:List Cp},Paired (fun d c=>CD c d) ds cs->(d∈ds↔c∈cs)/\ds.idxOf d=cs.idxOf c
 | _,_,.nil=>⟨by simp,rfl⟩
 | _,_,.cons (a:=d') (b:=c') (l₁:=ds) (l₂:=cs) h' t=>by
  obtain⟨i1,i2⟩:=CD.mem h t
  have e:=h'.iff h
  constructor
  ·rw [Gn,Gn,i1]
   constructor
   ·rintro (z | z)
    ·exact .inl (e.mp z.symm).symm
    ·exact .inr z
   ·rintro (z | z)
    ·exact .inl (e.mpr z.symm).symm
    ·exact .inr z
  ·rw [List.idxOf_cons,List.idxOf_cons]
   by_cases z:d' = d
   ·have z':=e.mp z
    rw [z,z',beq_self_eq_true,beq_self_eq_true]
    rfl
   ·have z':¬c' = c:=fun w=>z (e.mpr w)
    rw [beq_false_of_ne z,beq_false_of_ne z',i2]
theorem qu {T:Str->Sx}:∀ss:List Str,eT (fM T ss)=true
 | []=>rfl
 | x::ss=>by
  have ih:dY (ss.map (dF T))=true:=qu ss
  show ((true&&(eT (dS (T x))&&true))&&dY (ss.map (dF T)))=true
  rw [ih]
  obtain⟨a,b⟩:=T x
  cases a <;> cases b <;> rfl
theorem CD.key {c:Cp}{d:PyData}(h:CD c d)(hl:oY c.2):eN d:=by
 obtain⟨fd,⟨ss,srt,hm,rfl⟩,rfl⟩:=h
 refine⟨?_,?_,?_,_,rfl⟩
 ·show (true&&(eT (fM c.2 ss)&&true))=true
  rw [qu];rfl
 ·show (true&&((fM c.2 ss).canLay0&&true))=true
  rw [zr hl ss fun x hx=>(hm x).mp hx];rfl
 ·show max 0 (max (fM c.2 ss).depth 0)+1<=7
  have:=DZ c.2 ss
  omega
section
variable (tops:Nat->Prop)(most:Nat)
open Classical in
noncomputable def br (cs:List Cp) (c:Cp):Cp:=if tops c.1 then (c.1,T0) else if c∈cs\/cs.length<most then c else (c.1,T0)
noncomputable def cV (st:List Cp×List Nat) (l:Cp):List Cp×List Nat:=(LS.putIn st.1 (br tops most st.1 l),st.2++[(LS.putIn st.1 (br tops most st.1 l)).idxOf (br tops most st.1 l)])
noncomputable def aW (cs:List Cp) (ls:List Cp):List Cp×List Nat:=ls.foldl (cV tops most) (cs,[])
theorem oq {cs ls:List Cp}{i:Nat}{l:Cp}(h:ls[i]?=some l):aW tops most cs (ls.take (i+1))=cV tops most (aW tops most cs (ls.take i)) l:=by
 unfold aW
 rw [GN,h,HY]
 rfl
def iu (e:End):List Nat->End
 | [a]=>.go a
 | ns=>AR e ns
noncomputable def cy (ps:List Piece):Nat->List Cp->List Piece->List Cp×List Piece
 | 0,cs,outs=>(cs,outs)
 | f+1,cs,outs=>match cs[outs.length]? with
  | none=>(cs,outs)
  | some c=>match ps[c.1]? with
   | none=>(cs,outs)
   | some pc=>cy ps f (aW tops most cs (cB (bD c.2 pc.1) pc.2)).1 (outs++[(pc.1,iu pc.2 (aW tops most cs (cB (bD c.2 pc.1) pc.2)).2)])
end
theorem mK {T:Str->Sx}:∀ss:List Str,cq (fM T ss)=true
 | []=>rfl
 | x::ss=>by
  have ih:b4 (ss.map (dF T))=true:=mK ss
  show ((true&&(cq (dS (T x))&&true))&&b4 (ss.map (dF T)))=true
  rw [ih]
  obtain⟨a,b⟩:=T x
  cases a <;> cases b <;> rfl
theorem CD.ic {c:Cp}{d:PyData}(h:CD c d):cq d=true:=by
 obtain⟨fd,⟨ss,srt,hm,rfl⟩,rfl⟩:=h
 show (true&&(cq (fM c.2 ss)&&true))=true
 rw [mK];rfl
inductive wM  (vs:List V) (H:Hp) (Q:VK) (_:XK):Prop
 | mk (ea l:Addr) (e:End) (ns:List Nat) (_:vs=[.ref ea,.ref l]) (_:H ea=some (.tup (eJ e))) (_:H l=some (.lst (vN ns))) (_:(ns.length=1\/ns.length=(aV e).length)) (_:ns.length<=2) (_:∀t H',H' t=some (.tup (eJ (iu e ns)))->af H H'->Q (.ref t) H')
abbrev ou (ms:List (PyData×Addr))(cs:List Cp):Prop:=Paired (fun d c=>CD c d) (ms.map (·.1)) cs
inductive sF (P:Program) (w:World) (vs:List V) (H:Hp) (Q:VK) (_:XK):Prop
 | mk (la tp d:Addr) (most k:Nat) (T:Str->Sx) (dl:PyData) (hs:List Nat) (fv:V) (ms:List (PyData×Addr)) (cs:List Cp) (tops:Nat->Prop) (_:vs=[.ref la,.ref tp,.ref d,.int (most:Nat)]) (_:H la=some (.tup [.int (k:Nat),fv])) (_:aX H (.ref la) dl) (_:CD (k,T) dl) (_:oY T) (_:H tp=some (.tup (vN hs))) (_:(∀j,j∈hs↔tops j)) (_:H d=some (fk P w d (dE 0 ms))) (_:BI H (dE 0 ms)) (_:ou ms cs) (_:∀(a:Addr) (d':PyData) (H':Hp),aX H' (.ref a) d'->CD (br tops most cs (k,T)) d'->af H H'->Q (.ref a) H')
structure cT (xs:List Str) (T:Str->Sx):Prop where
 sup:∀x,T x≠cQ->x∈xs
 le:∀x,nZ (T x).1 (T x).2
theorem cT.zero {xs:List Str}:cT xs T0:=⟨fun x h=>absurd rfl h,fun x=>True.intro⟩
theorem cT.set {xs:List Str}{T:Str->Sx}(h:cT xs T){x:Str}{s:Sx}(hx:x∈xs)(hs:nZ s.1 s.2):cT xs (cS T x s):=by
 refine⟨fun y hy=>?_,fun y=>?_⟩
 ·unfold cS at hy
  by_cases e:y=x
  ·rw [e];exact hx
  ·rw [if_neg e] at hy;exact h.sup y hy
 ·unfold cS
  by_cases e:y=x
  ·rw [if_pos e];exact hs
  ·rw [if_neg e];exact h.le y
theorem CL {w:Str}{lo hi:Option Int}{n:Int}{side:Bool}{s:Sx}(le:nZ lo hi)(h:dP w lo hi n side=some s):nZ s.1 s.2:=by
 unfold dP at h
 split at h
 ·unfold kF at h
  split at h
  ·unfold gi at h
   cases lo with
   | none=>cases h;exact True.intro
   | some l =>
    dsimp only at h
    split at h
    ·cases h
    ·cases h;show l<=iS hi n;omega
  ·unfold iF at h
   cases hi with
   | none=>cases h;exact True.intro
   | some l =>
    dsimp only at h
    split at h
    ·cases h
    ·cases h;show iT lo n<=l;omega
 ·unfold uc at h
  split at h
  ·unfold lM at h
   split at h
   ·cases h;exact Int.le_refl n
   ·cases h
  ·unfold jn at h
   split at h
   ·next h1 =>
    split at h
    ·cases h
    ·next h2 =>
     cases h
     subst h1
     cases hi with
     | none=>exact True.intro
     | some b =>
      have:n<=b:=le
      have:¬b=n:=fun z=>h2 (by rw [z])
      show n+1<=b
      omega
   ·next h1 =>
    split at h
    ·next h2 =>
     cases h
     subst h2
     cases lo with
     | none=>exact True.intro
     | some a =>
      have:a<=n:=le
      have:¬a=n:=fun z=>h1 (by rw [z])
      show a<=n-1
      omega
    ·cases h;exact le
theorem cT.F9 {xs:List Str}{T:Str->Sx}(h:cT xs T){d:di}(hd:ft xs d):cT xs (xK T d):=by
 refine h.set hd.name ?_
 cases d with
 | put x n=>exact Int.le_refl n
 | copy x y=>exact h.le y
 | add x n =>
  have:=h.le x
  show nZ (jr (T x).1 n) (jr (T x).2 n)
  cases e1:(T x).1 with
  | none=>exact True.intro
  | some a=>cases e2:(T x).2 with
   | none=>exact True.intro
   | some b =>
    rw [e1,e2] at this
    have:a<=b:=this
    show a+n<=b+n
    omega
 | read x=>exact True.intro
 | tell x=>exact h.le x
theorem cT.rp {xs:List Str}:∀{ds:List di} {T:Str->Sx},cT xs T->(∀d∈ds,ft xs d)->cT xs (bD T ds)
 | [],_,h,_=>h
 | d::ds,T,h,hd=>cT.rp (ds:=ds) (h.F9 (hd d (Gx ..))) fun e he=>hd e (Gv _ he)
theorem rA {xs:List Str}{c:Nat}{T:Str->Sx}{e:End}(h:cT xs T)(he:i7 xs c e):∀p∈cB T e,p.1<c/\cT xs p.2:=fun p hp=>by
 unfold cB at hp
 obtain⟨⟨k,o⟩,ho,hm⟩:=Ic.mp hp
 have hz:=Ij ho
 cases e with
 | stop=>cases hz.1
 | go q =>
  rw [Gk.mp hz.2] at hm
  cases hm
  exact⟨by rw [Gk.mp hz.1];exact he,h⟩
 | cF b x n q r =>
  have hk:k<c:=by
   rcases Gn.mp hz.1 with z | z
   ·rw [z];exact he.2.2.1
   ·rw [Gk.mp z];exact he.2.2.2
  have key:∀side,o=(fw T b x n side).map (cS T x)->p.1<c/\cT xs p.2:=fun side eo=>by
   dsimp only at hm
   rw [eo] at hm
   cases z:fw T b x n side with
   | none=>rw [z] at hm;cases hm
   | some s =>
    rw [z] at hm
    cases hm
    exact⟨hk,h.set he.1 (CL (h.le x) z)⟩
  rcases Gn.mp hz.2 with z | z
  ·exact key true z
  ·exact key false (Gk.mp z)
theorem ju {xs:List Str}{T:Str->Sx}{e:End}(h:cT xs T):((cB T e).length=1\/(cB T e).length=(aV e).length)/\(cB T e).length<=2:=by
 cases e with
 | stop=>exact⟨.inr rfl,GI _⟩
 | go q=>exact⟨.inl rfl,by show 1<=2;decide⟩
 | cF b x n q r =>
  have e:cB T (.cF b x n q r)=((fw T b x n true).map fun s=>(q,cS T x s)).toList++((fw T b x n false).map fun s=>(r,cS T x s)).toList:=by
   unfold cB
   show ([(q,(fw T b x n true).map (cS T x)),(r,(fw T b x n false).map (cS T x))].filterMap fun p=>p.2.map fun U=>(p.1,U))=_
   cases fw T b x n true <;> cases fw T b x n false <;> rfl
  rw [e]
  cases e1:fw T b x n true with
  | none=>cases e2:fw T b x n false with
   | none=>exact (Ar (h.le x) e1 e2).elim
   | some s=>exact⟨.inl rfl,by show 1<=2;decide⟩
  | some s=>cases e2:fw T b x n false with
   | none=>exact⟨.inl rfl,by show 1<=2;decide⟩
   | some s=>exact⟨.inr rfl,Gj 2⟩
theorem cT.lay {xs:List Str}{T:Str->Sx}(h:cT xs T)(hx:∀x∈xs,dH x):oY T:=fun x hx'=>AX (hx x (h.sup x hx'))
theorem cT.cX {xs:List Str}{T:Str->Sx}(h:cT xs T):uC T xs.length:=fun ss hs nd=>sub_len nd fun x hx=>h.sup x (hs x hx)
open Classical in
noncomputable def mL (c:Cp):Bool:=decide (c.2≠T0)
theorem sG {α : Type}(p:α->Bool):∀l:List α,l.length=(l.filter p).length+(l.filter fun x=>!p x).length
 | []=>rfl
 | x::l=>by
  have ih:=sG p l
  cases h:p x with
  | true=>rw [IC h,HZ (by simp [h]),G0,G0];omega
  | false=>rw [HZ (by simp [h]),IC (by simp [h]),G0,G0];omega
structure fZ (n most:Nat) (cs:List Cp):Prop where
 nd:cs.Nodup
 cX:(cs.filter mL).length<=most
theorem fZ.len {n most:Nat}{cs:List Cp}(h:fZ n most cs)(hl:∀c∈cs,c.1<n):cs.length<=most+n:=by
 have e:=sG mL cs
 have h2:(cs.filter fun c=>!mL c).length<=n:=by
  have nd2:((cs.filter fun c=>!mL c).map (·.1)).Nodup:=by
   rw [List.Nodup,List.pairwise_map]
   refine (h.nd.filter _).imp_of_mem fun {a b} ha hb hne z=>hne ?_
   have ha2:=(Hj.mp ha).2
   have hb2:=(Hj.mp hb).2
   simp [mL] at ha2 hb2
   exact Prod.ext z (by rw [ha2,hb2])
  have:=d9 (n:=n) nd2 fun x hx=>by
   obtain⟨c,hc,rfl⟩:=GL.mp hx
   exact hl c (Hj.mp hc).1
  rw [Gi] at this
  exact this
 have:=h.cX
 omega
theorem fZ.put {n most:Nat}{tops:Nat->Prop}{cs:List Cp}{l:Cp}(h:fZ n most cs):fZ n most (LS.putIn cs (br tops most cs l)):=by
 unfold LS.putIn
 by_cases hm:br tops most cs l∈cs
 ·rw [if_pos hm];exact h
 ·rw [if_neg hm]
  refine⟨?_,?_⟩
  ·rw [Hz]
   refine⟨h.nd,by simp,fun x hx y hy z=>?_⟩
   rw [Gk.mp hy] at z
   exact hm (z ▸ hx)
  ·rw [Iv,Gq]
   by_cases hz:(br tops most cs l).2=T0
   ·rw [HZ (by simp [mL,hz])]
    simpa using h.cX
   ·have hlt:cs.length<most:=by
     unfold br at hz hm
     split at hz
     ·exact absurd rfl hz
     ·split at hz
      ·next h1 h2 =>
       rw [if_neg h1,if_pos h2] at hm
       exact h2.resolve_left hm
      ·exact absurd rfl hz
    have h3:(cs.filter mL).length<=cs.length:=Hy _ _
    have h4:(List.filter mL [br tops most cs l]).length<=1:=Hy _ _
    omega
open Classical in
noncomputable def startT (ps:List Piece):Str->Sx:=fun x=>if x∈bp ps then (some 0,some 0) else cQ
open Classical in
noncomputable def gr (ps:List Piece):Cp:=if bo ps 0 then (0,T0) else (0,startT ps)
noncomputable def bL (ps:List Piece) (most:Nat):List Cp×List Piece:=cy (bo ps) most ps (most+ps.length) [gr ps] []
theorem A1 {ps:List Piece}{ss:List Str}(hp:ss.Perm (LS.cI (bp ps)))(hs:sortedS ss=true):FD (startT ps) (mH ss):=by
 have hm:∀x,x∈ss↔x∈bp ps:=fun x=>hp.mem_iff.trans LS.jK
 refine⟨ss,⟨mx hs,hp.nodup_iff.mpr (LS.oR _)⟩,fun x=>?_,?_⟩
 ·rw [hm]
  unfold startT
  by_cases h:x∈bp ps
  ·rw [if_pos h];exact⟨fun _ z=>(by cases z),fun _=>h⟩
  ·rw [if_neg h];exact⟨fun z=>absurd z h,fun z=>absurd rfl z⟩
 ·unfold mH fM
  congr 1
  refine Ir fun x hx=>?_
  unfold dF startT
  rw [if_pos ((hm x).mp hx)]
  rfl
theorem kN {ps:List Piece}{xs:List Str}{m:Nat}(ok:b8 xs m ps):cT xs (startT ps):=by
 refine⟨fun x hx=>?_,fun x=>?_⟩
 ·unfold startT at hx
  by_cases h:x∈bp ps
  ·exact mw ok x h
  ·rw [if_neg h] at hx;exact absurd rfl hx
 ·unfold startT
  split
  ·exact Int.le_refl 0
  ·exact True.intro
theorem kO {tops:Nat->Prop}{most:Nat}{ps:List Piece}{f:Nat}{cs:List Cp}{outs:List Piece}{c:Cp}{pc:Piece}(h:cs[outs.length]?=some c)(hp:ps[c.1]?=some pc) :
  cy tops most ps (f+1) cs outs=cy tops most ps f (aW tops most cs (cB (bD c.2 pc.1) pc.2)).1 (outs++[(pc.1,iu pc.2 (aW tops most cs (cB (bD c.2 pc.1) pc.2)).2)]):=by
 conv=>lhs;unfold cy
 rw [h]
 dsimp only
 rw [hp]
theorem mO {tops:Nat->Prop}{most:Nat}{ps:List Piece}{cs:List Cp}{outs:List Piece}(h:cs[outs.length]?=none):∀f,cy tops most ps f cs outs=(cs,outs)
 | 0=>rfl
 | f+1=>by
  conv=>lhs;unfold cy
  rw [h]
theorem wN {X:Cx}{K:Gh}{e:Expr}{f:Str}{pos:Pos}{ta:TE}(hK:X.K=K)(he:PE X e ta)(hb:attributeBase e f X.env (eval e X.env)=eval e X.env):PE X (.Attribute e f pos) (Dk K ta f):=by
 subst hK
 exact fo he hb
theorem fP {tops:Nat->Prop}{most n:Nat}{xs:List Str}:∀{ls cs:List Cp} {ns:List Nat},fZ n most cs->(∀c∈cs,c.1<n/\cT xs c.2)->(∀c∈ls,c.1<n/\cT xs c.2)->fZ n most (ls.foldl (cV tops most) (cs,ns)).1/\(∀c∈(ls.foldl (cV tops most) (cs,ns)).1,c.1<n/\cT xs c.2)/\(ls.foldl (cV tops most) (cs,ns)).2.length=ns.length+ls.length/\∃more,(ls.foldl (cV tops most) (cs,ns)).1=cs++more
 | [],cs,ns,h,hc,_=>⟨h,hc,rfl,[],by simp⟩
 | l::ls,cs,ns,h,hc,hl=>by
  have hl0:=hl l (Gx ..)
  have hcp:(br tops most cs l).1<n/\cT xs (br tops most cs l).2:=by
   unfold br
   split
   ·exact⟨hl0.1,cT.zero⟩
   ·split
    ·exact hl0
    ·exact⟨hl0.1,cT.zero⟩
  have hc':∀c∈LS.putIn cs (br tops most cs l),c.1<n/\cT xs c.2:=fun c hc'=>by
   rcases LS.eR.mp hc' with z | z
   ·exact hc c z
   ·rw [z];exact hcp
  obtain⟨i1,i2,i3,more,i4⟩:=fP (tops:=tops) (ls:=ls) (cs:=LS.putIn cs (br tops most cs l)) (ns:=ns++[(LS.putIn cs (br tops most cs l)).idxOf (br tops most cs l)]) (h.put (l:=l)) hc' fun c hc=>hl c (Gv _ hc)
  refine⟨i1,i2,?_,?_⟩
  ·refine Eq.trans (show (ls.foldl (cV tops most) (cV tops most (cs,ns) l)).2.length=(ns++[(LS.putIn cs (br tops most cs l)).idxOf (br tops most cs l)]).length+ls.length from i3) ?_
   simp only [Gq,G0,Ip]
   omega
  ·have i4':(ls.foldl (cV tops most) (cV tops most (cs,ns) l)).1=LS.putIn cs (br tops most cs l)++more:=i4
   show ∃more,(ls.foldl (cV tops most) (cV tops most (cs,ns) l)).1=cs++more
   rw [i4']
   unfold LS.putIn
   split
   ·exact⟨more,rfl⟩
   ·exact⟨br tops most cs l::more,by simp⟩
theorem hJ.mv {P:Program}{w:World}{C r m d:Addr}{H H':Hp}{ms:List (PyData×Addr)}(A:hJ P w C H r m d ms)(nls:∀p∈ms,cq p.1=true)(k:∀c o,H c=some o->(c=r\/c=m\/c=d)->H' c=some o)(kt:∀p zs,H p=some (.tup zs)->H' p=some (.tup zs)):hJ P w C H' r m d ms:=by
 obtain⟨⟨dx,h1⟩,h2,h3,h4⟩:=A
 exact⟨⟨dx,k _ _ h1 (.inl rfl)⟩,k _ _ h2 (.inr (.inl rfl)),k _ _ h3 (.inr (.inr rfl)),fun p hp=>⟨(h4 p hp).1,(h4 p hp).2.aK kt (nls p hp)⟩⟩
theorem ou.ic {ms:List (PyData×Addr)}{cs:List Cp}(h:ou ms cs):∀p∈ms,cq p.1=true:=by
 have go:∀{ds:List PyData} {cs:List Cp},Paired (fun d c=>CD c d) ds cs->∀d∈ds,cq d=true:=by
  intro ds cs h
  induction h with
  | nil=>intro d hd;cases hd
  | cons r _ ih =>
   intro d hd
   rcases Gn.mp hd with rfl | hd
   ·exact r.ic
   ·exact ih d hd
 exact fun p hp=>go h p.1 (GL.mpr ⟨p,hp,rfl⟩)
theorem ou.put {ms:List (PyData×Addr)}{cs:List Cp}{c:Cp}{d:PyData}{a:Addr}(h:ou ms cs)(cd:CD c d):ou (kL ms d a) (LS.putIn cs c):=by
 obtain⟨hm,_⟩:=cd.mem h
 unfold kL LS.putIn
 by_cases z:c∈cs
 ·rw [if_pos z,if_pos (hm.mpr z)];exact h
 ·rw [if_neg z,if_neg (fun w=>z (hm.mp w))]
  show Paired _ ((ms++[(d,a)]).map (·.1)) _
  rw [GF]
  exact d8 h (.cons cd .nil)
theorem wO {H:Hp}:∀{ms:List (PyData×Addr)},(∀p∈ms,aX H (.ref p.2) p.1)->bu H (ms.map fun p=>V.ref p.2) (ms.map (·.1))
 | [],_=>.nil
 | p::ms,h=>.cons (h p (Gx ..)) (wO fun q hq=>h q (Gv _ hq))
theorem qv:∀{vs:List Value} {ks:List Int},vs.length=ks.length->(∀(j:Nat) (v:Value) (x:Int),vs[j]?=some v->ks[j]?=some x->∃t,v=.int x t)->IntsAre vs ks
 | [],[],_,_=>.nil
 | [],_::_,h,_=>by cases h
 | _::_,[],h,_=>by cases h
 | v::vs,x::ks,hl,h=>by
  obtain⟨t,rfl⟩:=h 0 v x rfl rfl
  exact .cons x t (qv (by simpa using hl) fun j v y h1 h2=>h (j+1) v y (by simpa using h1) (by simpa using h2))
section
variable {prog:Program}{w:World}{A:Around}{E:Value->Shared->Prop}{s:Shared}
theorem uN {a:Addr}{kvs:List (Key×Value)}{ks:List Int}{Q:Value->Shared->Prop}(hh:A.handled=none)(lo:(a == sysModules)=false)(dd:s.heap.DictOf (aQ prog w) a kvs)
  (hk:kvs.map (·.1)=ks.map Sum.inl) (h64:ks.length<64)
  (h:∀(h':Heap) (tk:Nat) (D:Addr) (out:Array Value) (ss':List Int) (e:Nat),(∀b o,s.heap.get? b=some o->h'.get? b=some o)->s.heap.objs.size<=D->h'.get? D=some { cls:=.type "list",data:=.seq out e } ->
   IntsAre out.toList ss'->ss'.Perm ks->Q (.ref D) { s with heap:=h',toks:=tk }) :
  wpAny (model prog w) A (call (.builtin "sorted") [.ref a]) Q E s:=by
 refine Calls.call_function_entry kind_sorted plain_sorted entry_sorted (args_sorted1 _) ?_
 unfold Builtin.«sorted»
 refine IW (m:=checkCount "sorted" 1 1 _) (IX ?_)
 obtain⟨ep,hat⟩:=dd.dictAt
 have hlk:kvs.length=ks.length:=by have:=congrArg Hb hk;simpa using this
 have hz:kvs.length<=sizeLine:=by rw [hlk];exact Gr (GZ h64) (by decide)
 refine IW (gather (A:=A.in1) (PySem.W.kdl_dict (knd:=aQ prog w) (kvs:=kvs) (ep:=ep) lo) hh hat hz fun h' tk acc hkeep hacc hsz=>?_)
 have hl:acc.toList.length=ks.length:=by rw [G7,hacc.1,hlk]
 have hS:IntsAre acc.toList ks:=qv hl fun j v x h1 h2=>by
  obtain⟨k,y,e1,e2⟩:=hacc.2 j v (by rw [<-HS];exact h1)
  have e3:(kvs.map (·.1))[j]?=some k:=by rw [Gz,e1];rfl
  rw [hk,Gz,h2] at e3
  cases (Gy.inj e3)
  exact og e2
 refine IW (Jw ?_ (by rw [hl];exact Gr (GZ h64) (by decide)))
 have hoL:(h'.push (seqObj "list" acc.toList.toArray 0)).get? h'.objs.size=some (seqObj "list" acc.toList.toArray 0):=Gu _ rfl
 refine IW (IZ (Ja slot_list_sort ⟨_,hoL,rfl⟩ entry_list_sort (list_sort_tree hoL hS (by rw [hl];exact h64) fun out ss' b1 b2 b3=>⟨_,rfl,?_⟩) (args_list_sort _)))
 obtain⟨e,he⟩:=sortedHeap_at (out:=out) hoL
 refine IX ⟨_,rfl,h _ tk _ _ ss' e (fun b o ho=>?_) hsz he b1 b2⟩
 have h1:=hkeep b o ho
 have hlt:=Gm h1
 rw [sortedHeap_old (Gs hlt) (by rw [size_push'];exact G6 hlt)]
 exact Gp _ h1
end
section
variable {X:Cx}
theorem sX (hc:X.calm=true):dW X (.builtin "sorted") (fun vs H Q=>∃(a:Addr) (kvs:List (Key×V)) (ks:List Int),vs=[.ref a]/\H a=some (.dK kvs)/\kvs.map (·.1)=ks.map Sum.inl/\ks.length<64 /\
  ∀(l:Addr) (ss:List Int),ss.Perm ks->H l=none->Q (.ref l) (upd H l (.lst (ss.map V.int)))):=by
 intro pins s Gf H xs us Q I r h
 obtain⟨a,kvs,ks,rfl,ha,hk,h64,q⟩:=h
 obtain⟨u,rfl,ru⟩:=vals1 r
 cases (show u=Value.ref a from ru)
 obtain⟨z,hd,vs,rel,dd⟩:=ng I.aL ha
 refine uN (I.ok.hd hc) hd dd (by rw [<-rel.keys];exact hk) h64 fun h' tk D out ss' e hkeep hD he hS hp=>?_
 have hv:Vals (ss'.map V.int) out.toList:=iN hS
 refine⟨.ref D,_,I.laid (t':=tk) (o:=.lst (ss'.map V.int)) hkeep hD (show bM X.prog X.w _ h' _ (.lst (ss'.map V.int)) from ⟨?_,out.toList,e,hv,by simpa using he⟩),rfl,q D ss' hp (I.aL.fresh hD)⟩
 rw [Gi,hp.length_eq]
 exact Gr (GZ h64) (by decide)
end
inductive qw  (vs:List V) (H:Hp) (Q:VK) (_:XK):Prop
 | mk (plv:V) (ps:List Piece) (_:vs=[plv]) (_:aX H plv (eD ps)) (_:kf ps) (_:0<ps.length) (_:ps.length<=60) (_:∀(t:Addr) (ks:List Nat) (H':Hp),H' t=some (.lst (vN ks))->(∀k,k∈ks↔iV ps k)->(∀k∈ks,k<ps.length)->ks.length<=60->af H H'->Q (.ref t) H')
inductive uO  (vs:List V) (H:Hp) (Q:VK) (_:XK):Prop
 | mk (plv:V) (ps:List Piece) (_:vs=[plv]) (_:aX H plv (eD ps)) (_:kf ps) (_:0<ps.length) (_:ps.length<=60) (_:∀(t:Addr) (ks:List Nat) (H':Hp),H' t=some (.lst (vN ks))->(∀k,k∈ks↔bo ps k)->ks.length<=60->af H H'->Q (.ref t) H')
inductive o3  (vs:List V) (H:Hp) (Q:VK) (_:XK):Prop
 | mk (ea:Addr) (e:End) (_:vs=[.ref ea]) (_:H ea=some (.tup (eJ e))) (_:∀l H',H l=none->H' l=some (.lst (vN (aV e)))->af H H'->Q (.ref l) H')
inductive sH  (vs:List V) (H:Hp) (Q:VK) (_:XK):Prop
 | mk (fv:V) (T:Str->Sx) (m:Nat) (_:vs=[fv]) (_:FV H fv T) (_:uC T m) (_:m<=60) (_:∀d' H',LT H' d' T m->af H H'->Q (.ref d') H')
open Classical in
noncomputable def kP (T:Str->Sx) (ss:List Str):Str->Sx:=fun x=>if x∈ss then T x else cQ
theorem uP {T:Str->Sx}{ss:List Str}{x:Str}:cS (kP T ss) x (T x)=kP T (ss++[x]):=by
 funext y
 unfold cS kP
 by_cases e:y=x
 ·rw [if_pos e,if_pos (by rw [e];exact GS _ (Gk.mpr rfl)),e]
 ·rw [if_neg e]
  by_cases h:y∈ss
  ·rw [if_pos h,if_pos (GV _ h)]
  ·rw [if_neg h,if_neg (fun z=>(Gw.mp z).elim h fun w=>e (Gk.mp w))]
theorem uQ {T:Str->Sx}{ss:List Str}(h:∀x,x∈ss↔T x≠cQ):kP T ss=T:=by
 funext x
 unfold kP
 by_cases z:x∈ss
 ·rw [if_pos z]
 ·rw [if_neg z]
  exact (Classical.byContradiction fun w=>z ((h x).mpr fun e=>w e.symm))
inductive uR  (vs:List V) (H:Hp) (Q:VK) (_:XK):Prop
 | mk (pc da ea nl:Addr) (ws:List V) (ds:List di) (e:End) (ns:List Nat) (_:vs=[.ref pc,.ref nl]) (_:H pc=some (.tup [.ref da,.ref ea])) (_:H da=some (.tup ws)) (_:bu H ws (ds.map dB)) (_:H ea=some (.tup (eJ e))) (_:H nl=some (.lst (vN ns))) (_:(ns.length=1\/ns.length=(aV e).length)) (_:∀v H',aX H' v (bW (ds,iu e ns))->af H H'->Q v H')
theorem uS {H:Hp}{v:V}{o:Option Int}(h:aX H v (dO o)):v=vO o:=by
 cases o with
 | none=>cases h;rfl
 | some i=>cases h;rfl
theorem A5 {H:Hp}{v:V}{s:Sx}(h:aX H v (dS s)):SH H v s:=by
 obtain⟨p,zs,rfl,hp,r⟩:=aX.bP h
 obtain⟨y1,t1,rfl,q1,r⟩:=r.cons_inv
 obtain⟨y2,t2,rfl,q2,r⟩:=r.cons_inv
 have z:=r.nil_inv
 subst z
 rw [uS q1,uS q2] at hp
 exact⟨p,rfl,hp⟩
def WV (m:Nat)(H:Hp)(v:V)(p:Cp):Prop:=∃q d,v=.ref q/\H q=some (.tup [.int (p.1:Nat),.ref d])/\LT H d p.2 m
def sI (m:Nat)(H:Hp)(vs:List V)(ps:List Cp):Prop:=Paired (WV m H) vs ps
theorem LT.mono {H:Hp}{d:Addr}{T:Str->Sx}{m k:Nat}(h:LT H d T m)(hk:m<=k):LT H d T k:=by
 obtain⟨kvs,ks,g1,g2,g3,g4⟩:=h
 exact⟨kvs,ks,g1,g2,g3,Gr g4 hk⟩
theorem zy {ps:List Piece}{most:Nat}(h:1<=most):(aW (bo ps) most [] [(0,startT ps)]).1=[gr ps]:=by
 show LS.putIn [] (br (bo ps) most [] (0,startT ps))=_
 have e:br (bo ps) most [] (0,startT ps)=gr ps:=by
  unfold br gr
  by_cases z:bo ps 0
  ·rw [if_pos z,if_pos z]
  ·rw [if_neg z,if_neg z,if_pos (.inr (by show 0<most;omega))]
 rw [e]
 unfold LS.putIn
 rw [if_neg (by simp)]
 rfl
theorem sI.mv {m:Nat}{H H':Hp}{vs:List V}{ps:List Cp}(h:sI m H vs ps)(kd:∀c kvs,H c=some (.dK kvs)->H' c=some (.dK kvs))(kt:∀c zs,H c=some (.tup zs)->H' c=some (.tup zs)):sI m H' vs ps:=by
 unfold sI at h ⊢
 induction h with
 | nil=>exact .nil
 | cons r _ ih =>
  obtain⟨q,d,e,h1,h2⟩:=r
  refine .cons ⟨q,d,e,kt _ _ h1,h2.aK (fun o e=>?_) kt⟩ ih
  obtain⟨kvs,ks,g,_⟩:=h2
  rw [g] at e
  cases e
  exact kd _ _ g
theorem fD {ds:List PyData}{cs:List Cp}(h:Paired (fun d c=>CD c d) ds cs):b4 ds=true:=by
 induction h with
 | nil=>rfl
 | cons r _ ih =>
  rename_i d c ds cs _
  show (cq d&&b4 ds)=true
  rw [r.ic,ih];rfl
def Ba (ps:List Piece)(most fu:Nat)(at_:Int)(cs:List Cp)(outs:List Piece)(ls:List Cp):Prop :=
 (at_ = -1/\cs=[]/\outs=[]/\ls=[(0,startT ps)]/\fu=most+ps.length+1) \/
 (at_=outs.length/\cy (bo ps) most ps fu cs outs=bL ps most/\fu+outs.length=most+ps.length/\outs.length<=cs.length/\∀c,cs[outs.length]?=some c->∃pc,ps[c.1]?=some pc/\ls=cB (bD c.2 pc.1) pc.2)
theorem Ba.pos {ps:List Piece}{most fu:Nat}{at_:Int}{cs:List Cp}{outs:List Piece}{ls:List Cp}(h:Ba ps most fu at_ cs outs ls)(hl:at_<cs.length)(hn:cs.length<=most+ps.length):0<fu:=by
 rcases h with ⟨_,_,_,_,h⟩ | ⟨h1,_,h3,_,_⟩ <;> omega
theorem FD.ic {T:Str->Sx}{d:PyData}(h:FD T d):cq d=true:=by
 obtain⟨ss,srt,hm,rfl⟩:=h
 exact mK ss
theorem nE {ds:List PyData}{cs:List Cp}(h:Paired (fun d c=>CD c d) ds cs)(hl:∀c∈cs,oY c.2):∀e∈ds,eN e:=by
 induction h with
 | nil=>intro e he;cases he
 | cons r _ ih =>
  intro e he
  rcases Gn.mp he with rfl | he
  ·exact r.key (hl _ (Gx ..))
  ·exact ih (fun c hc=>hl c (Gv _ hc)) e he
def jv (hs:List Nat)(k:Nat)(U:Str->Sx):Cp:=if k∈hs then (k,T0) else (k,U)
theorem zz {tops:Nat->Prop}{most:Nat}{cs:List Cp}{k:Nat}{U:Str->Sx}{hs:List Nat}(hh:∀j,j∈hs↔tops j):br tops most cs (k,U)=if jv hs k U∈cs\/cs.length<most then jv hs k U else (k,T0):=by
 unfold br jv
 by_cases h:k∈hs
 ·rw [if_pos ((hh k).mp h),if_pos h]
  split <;> rfl
 ·rw [if_neg (fun z=>h ((hh k).mpr z)),if_neg h]
  by_cases h2:(k,U)∈cs\/cs.length<most
  ·rw [if_pos h2,if_pos h2]
  ·rw [if_neg h2,if_neg h2]
theorem uT {H:Hp}{fvs:List V}{fds:List PyData}{cs:List Cp}{j:Nat}{c:Cp}(r:bu H fvs fds)(cc:Paired (fun d c=>CD c d) fds cs)(h:cs[j]?=some c):∃a y,fvs[j]?=some (.ref a)/\H a=some (.tup [.int (c.1:Nat),y])/\FV H y c.2:=by
 have hl:j<fds.length:=by rw [Paired.length cc];exact (GH.mp h).1
 have hd:fds[j]?=some fds[j]:=by simp [hl]
 generalize fds[j]=d at hd
 obtain⟨c',hc',cd⟩:=fO cc hd
 rw [h] at hc'
 cases hc'
 obtain⟨v,hv,rv⟩:=r.get hd
 obtain⟨fd,hfd,rfl⟩:=cd
 obtain⟨pa,pvs,rfl,hpm,rpv⟩:=aX.bP rv
 obtain⟨y1,t1,rfl,q1,rpv⟩:=rpv.cons_inv
 obtain⟨y2,t2,rfl,q2,rpv⟩:=rpv.cons_inv
 have z:=rpv.nil_inv
 subst z
 rw [q1.int_inv] at hpm
 exact⟨pa,y2,hv,hpm,hfd.fv q2⟩
theorem iQ.len {m:Nat}{H:Hp}{vs:List V}{ps:List (Nat×(Str->Sx))}(h:iQ m H vs ps):vs.length=ps.length:=Paired.length h
theorem iQ.at {m:Nat}{H:Hp}{vs:List V}{ps:List (Nat×(Str->Sx))}{i:Nat}{v:V}(h:iQ m H vs ps)(hi:vs[i]?=some v):∃pr,ps[i]?=some pr/\∃q sv d,v=.ref q/\H q=some (.tup [sv,.int (pr.1:Nat),.ref d])/\LT H d pr.2 m:=by
 obtain⟨pr,h1,q,sv,d,h2,h3,h4⟩:=fO h hi
 exact⟨pr,h1,q,sv,d,h2,h3,h4⟩
section
variable {tops:Nat->Prop}{most:Nat}
def Goes (tops:Nat->Prop)(most:Nat)(cs:List Cp)(ls:List Cp)(ns:List Nat):Prop:=Paired (fun l k=>∃c':Cp,cs[k]?=some c'/\c'.1=l.1/\((¬tops l.1/\c'.2=l.2)\/(c'.2=T0/\(tops l.1\/most<=cs.length)))) ls ns
theorem Goes.more {cs ls more:List Cp}{ns:List Nat}(h:Goes tops most cs ls ns):Goes tops most (cs++more) ls ns:=by
 unfold Goes at h ⊢
 induction h with
 | nil=>exact .nil
 | cons r _ ih =>
  obtain⟨c',h1,h2,h3⟩:=r
  refine .cons ⟨c',?_,h2,?_⟩ ih
  ·rw [Hv (GH.mp h1).1];exact h1
  ·rcases h3 with h3 | ⟨h3,h4 | h4⟩
   ·exact .inl h3
   ·exact .inr ⟨h3,.inl h4⟩
   ·exact .inr ⟨h3,.inr (by rw [Gq];omega)⟩
theorem Bb {cs:List Cp}{c:Cp}:(LS.putIn cs c)[(LS.putIn cs c).idxOf c]?=some c:=by
 have hm:c∈LS.putIn cs c:=LS.eR.mpr (.inr rfl)
 have hl:=List.idxOf_lt_length_of_mem hm
 rw [IS hl,List.getElem_idxOf hl]
theorem ow:∀{ls cs:List Cp} {ns:List Nat},∃more ms,(ls.foldl (cV tops most) (cs,ns)).1=cs++more/\(ls.foldl (cV tops most) (cs,ns)).2=ns++ms/\Goes tops most (ls.foldl (cV tops most) (cs,ns)).1 ls ms
 | [],cs,ns=>⟨[],[],by simp,by simp,.nil⟩
 | l::ls,cs,ns=>by
  obtain⟨more,ms,e1,e2,g⟩:=ow (ls:=ls) (cs:=LS.putIn cs (br tops most cs l)) (ns:=ns++[(LS.putIn cs (br tops most cs l)).idxOf (br tops most cs l)])
  have e0:(l::ls).foldl (cV tops most) (cs,ns)=ls.foldl (cV tops most) (LS.putIn cs (br tops most cs l),ns++[(LS.putIn cs (br tops most cs l)).idxOf (br tops most cs l)]):=rfl
  rw [e0]
  have hp:∃m0,LS.putIn cs (br tops most cs l)=cs++m0:=by
   unfold LS.putIn
   split
   ·exact⟨[],by simp⟩
   ·exact⟨_,rfl⟩
  obtain⟨m0,em⟩:=hp
  have hat:=Bb (cs:=cs) (c:=br tops most cs l)
  refine⟨m0++more,(LS.putIn cs (br tops most cs l)).idxOf (br tops most cs l)::ms,by rw [e1,em,GY],by rw [e2,GY];rfl,.cons ⟨br tops most cs l,?_,?_,?_⟩ g⟩
  ·rw [e1,Hv (GH.mp hat).1];exact hat
  ·unfold br
   split
   ·rfl
   ·split <;> rfl
  ·have hl:cs.length<=(ls.foldl (cV tops most) (LS.putIn cs (br tops most cs l),ns++[(LS.putIn cs (br tops most cs l)).idxOf (br tops most cs l)])).1.length:=by rw [e1,em,Gq,Gq];omega
   generalize (ls.foldl (cV tops most) (LS.putIn cs (br tops most cs l),ns++[(LS.putIn cs (br tops most cs l)).idxOf (br tops most cs l)])).1=cz at hl
   unfold br
   by_cases h1:tops l.1
   ·rw [if_pos h1];exact .inr ⟨rfl,.inl h1⟩
   ·rw [if_neg h1]
    by_cases h2:l∈cs\/cs.length<most
    ·rw [if_pos h2];exact .inl ⟨h1,rfl⟩
    ·rw [if_neg h2];exact .inr ⟨rfl,.inr (by have:¬cs.length<most:=fun z=>h2 (.inr z);omega)⟩
def FG (tops:Nat->Prop)(most:Nat)(ps:List Piece)(cs:List Cp)(outs:List Piece):Prop:=∀(j:Nat) (p:Piece),outs[j]?=some p->∃(c:Cp) (pc:Piece) (ns:List Nat),cs[j]?=some c/\ps[c.1]?=some pc/\p=(pc.1,iu pc.2 ns)/\Goes tops most cs (cB (bD c.2 pc.1) pc.2) ns
structure rB (tops:Nat->Prop) (most:Nat) (xs:List Str) (ps:List Piece) (cs:List Cp) (outs:List Piece):Prop where
 mP:fZ ps.length most cs
 ok:∀c∈cs,c.1<ps.length/\cT xs c.2
 le:outs.length<=cs.length
 rel:FG tops most ps cs outs
theorem rB.step {xs:List Str}{ps:List Piece}{cs:List Cp}{outs:List Piece}{m:Nat}(h:rB tops most xs ps cs outs)(pok:b8 xs m ps){c:Cp}{pc:Piece}(hc:cs[outs.length]?=some c)(hp:ps[c.1]?=some pc) :
  rB tops most xs ps (aW tops most cs (cB (bD c.2 pc.1) pc.2)).1 (outs++[(pc.1,iu pc.2 (aW tops most cs (cB (bD c.2 pc.1) pc.2)).2)])/\∃more,(aW tops most cs (cB (bD c.2 pc.1) pc.2)).1=cs++more:=by
 have hcm:=GB hc
 have dok:=pok.gU _ (GB hp)
 have eok:=pok.ends _ (GB hp)
 have bok:=(h.ok c hcm).2.rp dok.2
 obtain⟨k1,k2,_,_⟩:=fP (tops:=tops) (ls:=cB (bD c.2 pc.1) pc.2) (ns:=[]) h.mP h.ok (rA bok eok)
 obtain⟨more,ms,e1,e2,g⟩:=ow (tops:=tops) (most:=most) (ls:=cB (bD c.2 pc.1) pc.2) (cs:=cs) (ns:=[])
 have hol:outs.length<cs.length:=(GH.mp hc).1
 refine⟨⟨k1,k2,?_,?_⟩,more,e1⟩
 ·unfold aW
  rw [e1,Gq,Gq]
  show _+1<=_
  omega
 ·intro j p hj
  unfold aW
  by_cases hjl:j<outs.length
  ·rw [Hv hjl] at hj
   obtain⟨c',pc',ns',h1,h2,h3,h4⟩:=h.rel j p hj
   refine⟨c',pc',ns',?_,h2,h3,?_⟩
   ·rw [e1,Hv (by omega)];exact h1
   ·rw [e1];exact h4.more
  ·have hje:j=outs.length:=by
    have:=(GH.mp hj).1
    rw [Gq] at this
    have:j<outs.length+1:=this
    omega
   subst hje
   rw [Ik (Gj _),Nat.sub_self] at hj
   cases hj
   refine⟨c,pc,ms,?_,hp,?_,g⟩
   ·rw [e1,Hv hol];exact hc
   ·unfold aW
    rw [e2]
    rfl
theorem sJ {xs:List Str}{ps:List Piece}{m:Nat}(pok:b8 xs m ps):∀(fu:Nat) {cs:List Cp} {outs:List Piece},rB tops most xs ps cs outs->fu+outs.length=most+ps.length ->
  rB tops most xs ps (cy tops most ps fu cs outs).1 (cy tops most ps fu cs outs).2/\(cy tops most ps fu cs outs).2.length=(cy tops most ps fu cs outs).1.length/\∃more,(cy tops most ps fu cs outs).1=cs++more
 | 0,cs,outs,h,hf=>by
  have:=h.mP.len fun c hc=>(h.ok c hc).1
  have:=h.le
  exact⟨h,by show outs.length=cs.length;omega,[],by show cs=_;simp⟩
 | fu+1,cs,outs,h,hf=>by
  cases hc:cs[outs.length]? with
  | none =>
   rw [mO hc]
   have:cs.length<=outs.length:=List.getElem?_eq_none_iff.mp hc
   have:=h.le
   exact⟨h,by show outs.length=cs.length;omega,[],by simp⟩
  | some c =>
   have hcl:=(h.ok c (GB hc)).1
   have hps:ps[c.1]?=some ps[c.1]:=by simp [hcl]
   rw [kO hc hps]
   obtain⟨h',more,e⟩:=h.step pok hc hps
   obtain⟨i1,i2,more',i3⟩:=sJ pok fu h' (by rw [Gq];show fu+(_+1)=_;omega)
   exact⟨i1,i2,more++more',by rw [i3,e,GY]⟩
end
theorem kQ {xs:List Str}{ps:List Piece}{m most:Nat}(pok:b8 xs m ps)(hn0:0<ps.length)(hm:1<=most) :
  rB (bo ps) most xs ps (bL ps most).1 (bL ps most).2/\(bL ps most).2.length=(bL ps most).1.length/\∃more,(bL ps most).1=[gr ps]++more:=by
 refine sJ pok _ ⟨⟨by simp,Gr (Hy _ _) hm⟩,fun c hc=>?_,GI _,fun j p hj=>(by cases hj)⟩ rfl
 rw [Gk.mp hc]
 unfold gr
 split
 ·exact⟨hn0,cT.zero⟩
 ·exact⟨hn0,kN pok⟩
theorem CM {xs:List Str}{n n':Nat}{e:End}{ns:List Nat}(h:i7 xs n e)(hl:ns.length=1\/ns.length=(aV e).length)(hb:∀k∈ns,k<n'):i7 xs n' (iu e ns):=by
 match ns,hl,hb with
 | [a],_,hb=>exact hb a (Gk.mpr rfl)
 | [],hl,_ =>
  cases e with
  | stop=>exact True.intro
  | go p=>exact absurd (hl.resolve_left (by decide)) (by show ¬0=1;decide)
  | cF b x n p q=>exact absurd (hl.resolve_left (by decide)) (by show ¬0=2;decide)
 | [a,c],hl,hb =>
  have hl:=hl.resolve_left (by show ¬2=1;decide)
  cases e with
  | stop=>exact absurd hl (by show ¬2=0;decide)
  | go p=>exact absurd hl (by show ¬2=1;decide)
  | cF b x n p q=>exact⟨h.1,h.2.1,hb a (by simp),hb c (by simp)⟩
 | _::_::_::_,hl,_ =>
  exfalso
  have h3:(aV e).length<=2:=by cases e <;> (show _<=2) <;> simp [aV]
  simp only [G0] at hl
  omega
theorem Goes.lt {tops:Nat->Prop}{most:Nat}{cs ls:List Cp}{ns:List Nat}(h:Goes tops most cs ls ns):∀k∈ns,k<cs.length:=by
 unfold Goes at h
 induction h with
 | nil=>intro k hk;cases hk
 | cons r _ ih =>
  intro k hk
  rcases Gn.mp hk with rfl | hk
  ·obtain⟨c',h1,_⟩:=r
   exact (GH.mp h1).1
  ·exact ih k hk
theorem zA {xs:List Str}{ps:List Piece}{m most:Nat}(pok:b8 xs m ps)(hn0:0<ps.length)(hm:1<=most):b8 xs m (bL ps most).2:=by
 obtain⟨I,hl,_⟩:=kQ pok hn0 hm
 have key:∀p∈(bL ps most).2,(p.1.length<=m/\∀d∈p.1,ft xs d)/\i7 xs (bL ps most).2.length p.2:=fun p hp=>by
  obtain⟨j,hj⟩:=List.getElem?_of_mem hp
  obtain⟨c,pc,ns,h1,h2,rfl,h4⟩:=I.rel j p hj
  have hpm:=GB h2
  have bok:=(I.ok c (GB h1)).2.rp (pok.gU _ hpm).2
  refine⟨(show pc.1.length<=m/\∀d∈pc.1,ft xs d from pok.gU pc hpm),CM (pok.ends _ hpm) ?_ (by rw [hl];exact h4.lt)⟩
  rw [<-Paired.length h4]
  exact (ju (e:=pc.2) bok).1
 exact⟨fun p hp=>(key p hp).1,fun p hp=>(key p hp).2⟩
def uU (outs:List Piece)(ds:List PyData):PyData:=.tuple [.tuple (outs.map bW),.tuple ds]
theorem CN {ds ds':List PyData}{cs:List Cp}(h:Paired (fun d c=>CD c d) ds cs)(h':Paired (fun d c=>CD c d) ds' cs):ds=ds':=by
 induction h generalizing ds' with
 | nil=>cases h';rfl
 | cons r _ ih =>
  cases h' with
  | cons r' t'=>rw [ih t',(r.iff r').mpr rfl]
theorem CO {ds:List PyData}{cs:List Cp}(h:Paired (fun d c=>CD c d) ds cs)(hl:∀c∈cs,oY c.2):(∀d∈ds,d.canLay0=true)/\∀d∈ds,d.depth<=7 :=
 ⟨fun d hd=>(nE h hl d hd).lay,fun d hd=>(nE h hl d hd).dep⟩
theorem CP {xs:List Str}{ps:List Piece}{m most:Nat}(pok:b8 xs m ps)(nok:∀x∈xs,dH x)(hn0:0<ps.length)(hm:1<=most){ds:List PyData}(h:Paired (fun d c=>CD c d) ds (bL ps most).1) :
  (uU (bL ps most).2 ds).canLay0=true/\(uU (bL ps most).2 ds).depth<=60:=by
 obtain⟨I,hl,_⟩:=kQ pok hn0 hm
 have lp:=AW nok (zA pok hn0 hm)
 obtain⟨l1,l2⟩:=CO h fun c hc=>(I.ok c hc).2.lay nok
 constructor
 ·show ((PyData.tuple ((bL ps most).2.map bW)).canLay0&&((PyData.tuple ds).canLay0&&true))=true
  rw [eQ _ l1,eQ _ fun d hd=>by
   obtain⟨p,hp,rfl⟩:=GL.mp hd
   show ((PyData.tuple (p.1.map dB)).canLay0&&((jm p.2).canLay0&&true))=true
   rw [(lp p hp).1,(lp p hp).2]
   rfl]
  rfl
 ·show max (PyData.depthAll ((bL ps most).2.map bW)+1) (max (PyData.depthAll ds+1) 0)+1<=60
  have h1:=nv (m:=3) ((bL ps most).2.map bW) fun d hd=>by
   obtain⟨p,_,rfl⟩:=GL.mp hd
   exact zl p
  have h2:=nv (m:=7) ds l2
  omega
theorem b8.up {xs:List Str}{m k:Nat}{ps:List Piece}(h:b8 xs m ps)(hk:m<=k):b8 xs k ps:=⟨fun p hp=>⟨Gr (h.gU p hp).1 hk,(h.gU p hp).2⟩,h.ends⟩
section
variable {X:Cx}
end
section
variable {X:Cx}{pos:Pos}
end
section
variable {X:Cx}
end
section
variable {X:Cx}
end
section
variable {X:Cx}
end
section
variable {X:Cx}
end
section
variable {X:Cx}{pos:Pos}
end
section
variable {X:Cx}{pos:Pos}
end
section
variable {X:Cx}{pos:Pos}
end
section
variable {X:Cx}{K:Gh}
end
section
variable {X:Cx}
end
end L2
namespace LS
open PySem PySem.Spec PyProof.Rows L2
section
variable {prog:Program}{w:World}{A:Around}{E:Value->Shared->Prop}{s:Shared}{I l:Addr}{its:Array Value}
end
section
variable {prog:Program}{w:World}{A:Around}{E:Value->Shared->Prop}{s:Shared}{I l:Addr}{its:Array Value}
end
end LS
namespace L2
open PySem PySem.Spec PyProof.Rows
section
variable {X:Cx}
end
end L2
namespace LS
open PySem PySem.Spec PyProof.Rows L2
section
variable {prog:Program}{w:World}{K:Type}[DecidableEq K]{knd:KeyKind prog w K}
variable {A:Around}{E:Value->Shared->Prop}{s:Shared}{a:Addr}{ks:List K}
end
section
variable {prog:Program}{w:World}{A:Around}{E:Value->Shared->Prop}{s:Shared}
end
end LS
namespace L2
open PySem PySem.Spec PyProof.Rows LS
section
variable {X:Cx}
end
end L2
namespace HT
open PySem PySem.Spec PyProof.Rows
section
variable {prog:Program}{w:World}{A:Around}{E:Value->Shared->Prop}{s:Shared}
end
end HT
namespace L2
open PySem PySem.Spec PyProof.Rows LS
section
variable {X:Cx}
end
section
variable {prog:Program}{w:World}{A:Around}{E:Value->Shared->Prop}{s:Shared}
end
section
variable {X:Cx}
end
section
variable {X:Cx}
end
section
variable {ps:List Piece}{a b:Nat}{p q:Piece}
end
section
variable {X:Cx}{P:Program}{w:World}
end
section
variable {P:Program}{w:World}{H H':Hp}{d:Addr}{n:Nat}{us:List ((Nat×Nat)×Addr)}
end
section
variable (P:Program)(w:World)
end
section
variable {X:Cx}
end
section
variable {X:Cx}
end
section
variable {ps:List Piece}
end
section
variable {X:Cx}
end
section
variable {prog:Program}{w:World}{A:Around}{E:Value->Shared->Prop}{s:Shared}
end
section
variable {X:Cx}
end
abbrev EZ:=(Nat×Nat)×List Str
section
variable {ps:List Piece}{ms:List EZ}{at_ f:Nat}{x:EZ}{p q:Piece}
end
section
variable (P:Program)(w:World)
end
section
variable {X:Cx}
end
def md (n x:Nat):Nat:=if x<n then x else x-n
section
variable {n odd a b i j:Nat}
end
open AutoSeq1 (wpAny_loadPart')
section
variable {prog:Program}{w:World}{A:Around}{E:Value->Shared->Prop}{s:Shared}
end
section
variable {prog:Program}{w:World}{A:Around}{E:Value->Shared->Prop}{s:Shared}
end
section
variable {X:Cx}
end
section
variable {ps qs:List Piece}{src:List Nat}
end
section
variable {P:Program}{w:World}{K:Gh}{mg:Str->Option Value}{base h:Heap}{x q m:Str}{st:Stmt}{f C:Addr}{fd:FuncData}{k:Nat}{ps:List Str}{sp:Sp}
structure bI (K:Gh) (x:Str) (st:Stmt) (f:Addr) (fd:FuncData):Prop where
 a:GG K mainGlobals x=some (some (.ref f))
 F:b0 K x x st f fd
structure qx (K:Gh) (C:Addr) (x q:Str) (st:Stmt) (f:Addr) (fd:FuncData):Prop where
 a:GU K (.ref C) x=some (some (.ref f))
 i:HQ K (.ref f)=true
 F:b0 K x q st f fd
section
variable {oc:Value}{od an:Option Addr}{osl:Array (Option Value)}{kV doc pm cdv ct:Value}
theorem def_mk (a:GG K mainGlobals x=some (some (.ref f)))(l:K.lookup f=some ⟨oc,od,.func (G5 x x (dX st) (dt st) (aw st) .none kV doc pm an cdv ct),osl⟩)
  (c:HC K cdv x=true) (k:Hd K (.ref f)=true):bI K x st f (G5 x x (dX st) (dt st) (aw st) .none kV doc pm an cdv ct):=⟨a,yC l c k⟩
theorem met_mk (a:GU K (.ref C) x=some (some (.ref f)))(i:HQ K (.ref f)=true)(l:K.lookup f=some ⟨oc,od,.func (G5 x q (dX st) (dt st) (aw st) .none kV doc pm an cdv ct),osl⟩)
  (c:HC K cdv q=true) (k:Hd K (.ref f)=true):qx K C x q st f (G5 x q (dX st) (dt st) (aw st) .none kV doc pm an cdv ct):=⟨a,i,yC l c k⟩
end
def jM (x q:Str)(st:Stmt)(ps:List Str):Prop:=∀(kV doc pm:Value) (an:Option Addr) (cdv ct:Value) (us:List Value),us.length=ps.length->bindArgs (G5 x q (dX st) (dt st) (aw st) .none kV doc pm an cdv ct) ⟨us,[]⟩=pure (ps.zip us)
theorem bG (P:Program)(w:World)(base:Heap)(X:K.In h)(G:h.Ns mainGlobals mg)(d:bI K x st f fd)(o:bA P w K mg base bX k f fd ps sp)(b:jM x x st ps):Own P w K mg base x k ps sp:=⟨⟨_,_,o,G8 X G d.a,d.F.kp,d.F.binds b⟩⟩
theorem CQ (P:Program)(w:World)(base:Heap)(mg:Str->Option Value)(T:lJ K C)(d:qx K C x q st f fd)(o:bA P w K mg base bX k f fd ps sp)(b:jM x q st ps):As P w K mg base C x k ps sp:=⟨T,⟨_,_,o,⟨d.a,d.i,d.F.kp⟩,d.F.binds b⟩⟩
theorem CS (P:Program) (w:World) (base:Heap) (X:K.In h) (G:h.Ns mainGlobals mg) (aC:GG K mainGlobals m=some (some (.ref C))) (mk:Ii K C=true) (kc:Hd K (.ref C)=true) (d:qx K C "__init__" q st f fd) (o:bA P w K mg base bX k f fd ps sp) (b:jM "__init__" q st ps):Au P w K mg base C m k ps sp:=⟨⟨_,_,o,⟨mk,d.a,d.i,kc⟩,G8 X G aC,d.F.binds b⟩⟩
section
variable {p1 p2 p3 p4 p5 p6:Str}
theorem hU (h:∀(kV doc pm:Value) (an:Option Addr) (cdv ct u1:Value),bindArgs (G5 x q (dX st) (dt st) (aw st) .none kV doc pm an cdv ct) ⟨[u1],[]⟩=pure [(p1,u1)]):jM x q st [p1]:=fun _ _ _ _ _ _ us hl=>match us,hl with | [_],_=>h ..
theorem fQ (h:∀(kV doc pm:Value) (an:Option Addr) (cdv ct u1 u2:Value),bindArgs (G5 x q (dX st) (dt st) (aw st) .none kV doc pm an cdv ct) ⟨[u1,u2],[]⟩=pure [(p1,u1),(p2,u2)]):jM x q st [p1,p2]:=fun _ _ _ _ _ _ us hl=>match us,hl with | [_,_],_=>h ..
theorem zB (h:∀(kV doc pm:Value) (an:Option Addr) (cdv ct u1 u2 u3:Value),bindArgs (G5 x q (dX st) (dt st) (aw st) .none kV doc pm an cdv ct) ⟨[u1,u2,u3],[]⟩=pure [(p1,u1),(p2,u2),(p3,u3)]):jM x q st [p1,p2,p3]:=fun _ _ _ _ _ _ us hl=>match us,hl with | [_,_,_],_=>h ..
theorem Ec (h:∀(kV doc pm:Value) (an:Option Addr) (cdv ct u1 u2 u3 u4:Value),bindArgs (G5 x q (dX st) (dt st) (aw st) .none kV doc pm an cdv ct) ⟨[u1,u2,u3,u4],[]⟩=pure [(p1,u1),(p2,u2),(p3,u3),(p4,u4)]):jM x q st [p1,p2,p3,p4]:=fun _ _ _ _ _ _ us hl=>match us,hl with | [_,_,_,_],_=>h ..
end
end
theorem cA {N ps:List Str}{sc:Scope}(h1:sc.kind=.function:=by rfl)(h2:sc.isCoroutine=false:=by rfl)(h3:sc.isGenerator=false:=by rfl)(h4:N.Nodup:=by decide +kernel)(h5:N.take ps.length=ps:=by rfl)(h6:∀x∈ps,sc.names.lookup x=some .local\/sc.names.lookup x=some .cell:=by decide +kernel)(h7:∀y∈sc.names,y.2≠.free:=by decide +kernel):aR N ps sc:=⟨h1,h2,h3,h4,h5,h6,h7⟩
theorem aI {X:Cx}{x:Str}{k m:Nat}{ps:List Str}{sp:Sp}{e:Expr}{es:List Expr}{t:TA}{p pos:Pos}(o:Own X.prog X.w X.K X.mg X.base x k ps sp)(hr:de m X.A)(ha:PA X (e::es) t)(hk:k<=m:=by decide)(hg:Gl X x:=by rfl)
  (hdb:(x == ("__debug__" : Str))=false:=by decide) (he:starEach (e::es) X.env=(false,eval e X.env)::starEach es X.env:=by rfl) (hpl:(backTo pos (starEach es X.env)).any (·.1)=false:=by rfl):PE X (.Call (.Name x p) (e::es) [] pos) (tG sp [] E0 t):=Dz o (hr.mono hk) hg ha hdb he hpl
theorem aJ {X:Cx}{i:Nat}{x:Str}{e:Expr}{te:TE}{pos pos':Pos}(hN:X.N.Nodup)(he:PE X e te)(hi:X.N[i]?=some x:=by rfl)(hx:Loc X.env.scope x:=by first | exact Or.inl rfl | exact GQ rfl)(hs:swapsWith e (some (.Name x pos')) pos.line X.env=pure false:=by rfl)(hf:X.fn x=true\/X.env.scope.names.lookup x=some .local:=by first | exact .inl rfl | exact .inr rfl | assumption) :
  PS X (.Assign [.Name x pos'] e pos) (wW te (m5 i)):=Dc hN hi hx he hs hf
theorem aN {X:Cx}{i:Nat}{x:Str}{pos:Pos}(hN:X.N.Nodup)(hi:X.N[i]?=some x:=by rfl)(hx:Loc X.env.scope x:=by first | exact Or.inl rfl | exact GQ rfl)(hf:X.fn x=true\/X.env.scope.names.lookup x=some .local:=by first | exact .inl rfl | exact .inr rfl | assumption):PG X (.Name x pos) (m5 i):=BO hN hi hx hf
theorem aG {X:Cx}{a b:Expr}{ta tb:TE}{pos:Pos}{r:R2}(hr:yx X r)(ha:PE X a ta)(hb:PE X b tb)(hs:vU b:=by exact fun _ _=>rfl):PE X (.Subscript a b pos) (yk r ta tb):=Ey hr ha hb hs
theorem au {X:Cx}{e1:Expr}{t1:TE}(h1:PE X e1 t1)(s1:starEach [e1] X.env=(false,eval e1 X.env)::starEach [] X.env:=by rfl):PA X [e1] (fU t1 oE):=(bH h1 bQ s1)
theorem ay {X:Cx}{e1 e2:Expr}{t1 t2:TE}(h1:PE X e1 t1)(h2:PE X e2 t2)(s1:starEach [e1,e2] X.env=(false,eval e1 X.env)::starEach [e2] X.env:=by rfl)(s2:starEach [e2] X.env=(false,eval e2 X.env)::starEach [] X.env:=by rfl):PA X [e1,e2] (fU t1 (fU t2 oE)):=(bH h1 (bH h2 bQ s2) s1)
theorem gc {X:Cx}{e1 e2 e3:Expr}{t1 t2 t3:TE}(h1:PE X e1 t1)(h2:PE X e2 t2)(h3:PE X e3 t3)(s1:starEach [e1,e2,e3] X.env=(false,eval e1 X.env)::starEach [e2,e3] X.env:=by rfl)(s2:starEach [e2,e3] X.env=(false,eval e2 X.env)::starEach [e3] X.env:=by rfl)(s3:starEach [e3] X.env=(false,eval e3 X.env)::starEach [] X.env:=by rfl):PA X [e1,e2,e3] (fU t1 (fU t2 (fU t3 oE))):=(bH h1 (bH h2 (bH h3 bQ s3) s2) s1)
theorem uV {X:Cx}{e1 e2 e3 e4:Expr}{t1 t2 t3 t4:TE}(h1:PE X e1 t1)(h2:PE X e2 t2)(h3:PE X e3 t3)(h4:PE X e4 t4)(s1:starEach [e1,e2,e3,e4] X.env=(false,eval e1 X.env)::starEach [e2,e3,e4] X.env:=by rfl)(s2:starEach [e2,e3,e4] X.env=(false,eval e2 X.env)::starEach [e3,e4] X.env:=by rfl)(s3:starEach [e3,e4] X.env=(false,eval e3 X.env)::starEach [e4] X.env:=by rfl)(s4:starEach [e4] X.env=(false,eval e4 X.env)::starEach [] X.env:=by rfl):PA X [e1,e2,e3,e4] (fU t1 (fU t2 (fU t3 (fU t4 oE)))):=(bH h1 (bH h2 (bH h3 (bH h4 bQ s4) s3) s2) s1)
section
variable (ps:List Piece)
def Ga (p:Nat):Nat:=match ps[p]? with
 | some ([],.go q)=>q
 | _=>p
def sq (p:Nat):Nat->Nat
 | 0=>p
 | i+1=>Ga ps (sq p i)
end
section
variable {ps:List Piece}
end
section
variable {ps:List Piece}{st:Nat->Nat}
end
def zC (a b:Sp):Sp:=fun vs H Q E=>a vs H Q E\/b vs H Q E
section
variable {ps:List Piece}{G:List Nat}
end
open PySem.Calls PySem.W Builtin.Getset_descriptor
structure jU (K:Gh) (C:Addr):Prop where
 ok:excIn K C [.type "ValueError",.type "Exception",.type "BaseException",.type "object"] "ValueError.__new__" = true
 ga:findIn K (.ref C) "__getattribute__" = some (some (.builtin "BaseException.__getattribute__"))
 gn:findIn K (.ref C) "__getattr__" = some none
 cl:findIn K (.ref C) "__class__" = some (some (.builtin "object.__class__"))
 ob:mroIn K C (.type "object")=some true
 bx:mroIn K C (.type "BaseException")=some true
section
variable {prog:Program}{w:World}{A:Around}{E:Value->Shared->Prop}{s:Shared}{K:Frag}{x C:Addr}
def iH (h:Heap)(x C:Addr):Prop:=∃o,h.get? x=some o/\o.cls=.ref C
theorem iH.ty {M:Model}{h:Heap}(I:iH h x C):Looks M h (typeOf (.ref x)) (.ref C):=by
 obtain⟨o,h1,h2⟩:=I
 exact h2 ▸ (Looks.ld h1).andThen .now
theorem Ed {nameV:Value}{R:Result->Shared->Prop}(X:K.In s.heap)(I:iH s.heap x C)(T:jU K C)
  (h:wpAny (model prog w) (A.in1) (Builtin.«object.__getattribute__» ⟨[.ref x,nameV],[]⟩) (fun f s'=>match f with | .done r=>R (.ok r) s' | _=>False) (fun e s'=>R (.error e) s') s) :
  codeAny (model prog w) A (.call (.builtin "BaseException.__getattribute__") ⟨[.ref x,nameV],[]⟩) R s:=by
 have LI:Looks (model prog w) s.heap (isInstance (.ref x) (.type "BaseException")) true:=I.ty.andThen (looks_mroIn X T.bx)
 have hk:builtinKind "BaseException.__getattribute__" = some .slot:=by decide +kernel
 have hs:splitId "BaseException.__getattribute__" = some ("BaseException", "__getattribute__"):=by decide +kernel
 have ha:=PySem.F.args_bexc_ga (.ref x) nameV
 refine JF PySem.F.attr_ValueError.ga.plain PySem.F.entry_bexc_ga ?_
 generalize Builtin.«object.__getattribute__» ⟨[.ref x,nameV],[]⟩=body at h ⊢
 simp only [checkBuiltinCall,hk,hs]
 refine IW (LI.at ?_)
 obtain⟨hh,g,d,t,os⟩:=s
 repeat (any_goals (first | assumption | wp_step))
 refine IY h (fun f s' z=>?_) fun _ _ z=>z
 rcases f with _ | _
 ·exact z
 ·exact z.elim
theorem Ee {R:Result->Shared->Prop} {tp:Value} (X:K.In s.heap) (I:iH s.heap x C) (hm:mroIn K C (.type "object")=some true) (h:R (.ok (.ret (.ref C))) s) :
  codeAny (model prog w) A (.call (.builtin "getset_descriptor.__get__") ⟨[.builtin "object.__class__",.ref x,tp],[]⟩) R s:=by
 have T0:=I.ty (M:=model prog w)
 have T1:=looks_mroIn (M:=model prog w) X hm
 obtain⟨hh,g,dr,t,os⟩:=s
 refine JF KF.slot_gs.plain KF.entry_gs (KF.slot_gs.check _ _ _ _ _ _ _ _ KF.type_class (KF.args_gs _ _ _) ?_)
 unfold Builtin.«getset_descriptor.__get__» descrGet;rw [dga_obj];refine IW (IX ?_)
 unfold descrGetter descrCheckInstance descrNameAndClass isInstance;simp only [KF.owner_class];repeat lk
 refine⟨Code.quiet_builtin _ (by decide +kernel),Je KF.entry_class ?_⟩;unfold Builtin.«object.__class__» shownTypeOf;repeat lk
 exact h
theorem zD {M:Model} {h:Heap} {name:Str} {a g:Value} (X:K.In h) (ha:findIn K (.ref C) name=some (some a)) (hg:specialIn K a "__get__" = some (some g)) (ht:takesIn K a=some true):Looks M h (Builtin.ObjectAttr.find (.ref x) (.ref C) name) (.bind g a):=by
 have q1:=looks_findIn (M:=M) X ha
 have q2:Looks M h (Builtin.ObjectAttr.getOf (some a)) (some g):=looks_specialIn X hg
 have q3:=looks_takesIn (M:=M) X ht
 exact q1.andThen (q2.andThen ((show Looks M h (Builtin.ObjectAttr.dataDescriptor? (some a) (some g)) (some (g,a)) from q3.andThen .now).andThen (Looks.tag .now)))
theorem CT:specialIn K (.builtin "object.__class__") "__get__" = some (some (.builtin "getset_descriptor.__get__")):=by
 show (typeIn K (.builtin "object.__class__")).bind _=_
 rw [show typeIn K (.builtin "object.__class__")=some (.type "getset_descriptor") from by show pureOf (fastBuiltinType "object.__class__")=_;decide +kernel]
 show fastLookup "getset_descriptor" "__get__" = _
 decide +kernel
theorem CU:takesIn K (.builtin "object.__class__")=some true:=by
 unfold takesIn
 rw [show specialIn K (.builtin "object.__class__") "__set__" = some (some (.builtin "getset_descriptor.__set__")) from by
  show (typeIn K (.builtin "object.__class__")).bind _=_
  rw [show typeIn K (.builtin "object.__class__")=some (.type "getset_descriptor") from by show pureOf (fastBuiltinType "object.__class__")=_;decide +kernel]
  show fastLookup "getset_descriptor" "__set__" = _
  decide +kernel]
theorem zE {Q:Option Value->Shared->Prop}(X:K.In s.heap)(I:iH s.heap x C)(T:jU K C)(h:Q (some (.ref C)) { s with toks:=s.toks+1 }):wpAny (model prog w) A (getAttr? (.ref x) "__class__") Q E s:=by
 have T0:=I.ty (M:=model prog w)
 have T1:=looks_findIn (M:=model prog w) X T.ga
 have T2:=looks_findIn (M:=model prog w) X T.gn
 have LF:=zD (M:=model prog w) (x:=x) X T.cl CT CU
 obtain⟨hh,g,d,t,os⟩:=s
 unfold getAttr? getAttrBy? getAttrBy
 refine IW (wpAny_mkText (IW (Jj (IZ (IW (T0.at (IW (T1.at ?_))))))))
 show wpAny _ _ (getAttrByItsOwn _ _ _ _ _ _) _ _ _
 unfold getAttrByItsOwn hookBefore
 have f3:=PySem.F.attr_ValueError.ga.bind (.ref x)
 repeat (any_goals (first | assumption | (with_reducible refine T2.at ?_) | wp_step))
 refine Ed X I T ?_
 repeat (any_goals (first | assumption | (with_reducible refine T0.at ?_) | (with_reducible refine LF.at ?_) | wp_step))
 refine Ee X I T.ob ?_
 repeat (any_goals (first | assumption | (with_reducible refine handed_on rfl ?_) | wp_step))
theorem o4 (T:jU K C):KitX K (.ref x) (.ref C) (fun h=>iH h x C):=by
 obtain⟨cd,hc,_⟩:=Option.bind_eq_some_iff.mp T.ob
 have lk:∃c d sl,K.lookup C=some ⟨c,d,.cls cd,sl⟩:=by
  unfold clsIn at hc
  split at hc
  ·rename_i ho;cases hc;exact⟨_,_,_,ho⟩
  ·cases hc
 obtain⟨c',d',sl',ho⟩:=lk
 refine⟨fun _ _ _ I=>I.ty,fun _ _ X _=>?_,fun h tp dd its n sl X htp=>?_,fun X I k=>zE X I T k⟩
 ·intro A' Q' E' s' k q
  unfold isType loadHead
  exact IW (wpAny_loadPart (k _ _ (X _ _ ho)) (IX q))
 ·refine IA.mpr fun q=>?_
  have e:=(X _ _ ho).symm.trans ((Value.ref.inj (beq_iff_eq.mp q)).symm ▸ htp)
  cases e
end
def iW (e C:Addr):HO:=.ext fun h=>iH h e C
theorem rC {P:Program}{w:World}{H:Hp}{h:Heap}{e C:Addr}(ok:dn P w H h)(he:H e=some (iW e C)):iH h e C:=(show bM P w H h e (iW e C) from ok e _ he).1
theorem CV {P:Program}{w:World}{H:Hp}{h:Heap}{e C:Addr}(q:iH h e C):bM P w H h e (iW e C) :=
 ⟨q,(let ⟨o,h1,_⟩:=q;⟨o,h1⟩),fun _ _ ⟨o,h1,h2⟩ k=>⟨o,k o h1,h2⟩⟩
inductive FH (K:Gh) (xs:List V) (H:Hp) (Q:VK):Prop
 | own (e C D:Addr) (b:Bool) (_:xs=[.ref e,.ref D]) (_:H e=some (iW e C)) (_:jU K C) (_:kitOne K (.ref C) (.ref D)=some b) (_:Q (.bl b) H)
 | bi (e C:Addr) (T:String) (b:Bool) (_:xs=[.ref e,.ty T]) (_:H e=some (iW e C)) (_:jU K C) (_:kitOne K (.ref C) (.type T)=some b) (_:Q (.bl b) H)
 | tup (e C tp:Addr) (cs:List Addr) (b:Bool) (_:xs=[.ref e,.ref tp]) (_:H e=some (iW e C)) (_:jU K C) (_:H tp=some (.tup (cs.map V.ref))) (_:kitAny K (.ref C) (cs.map Value.ref)=some b) (_:Q (.bl b) H)
section
variable {X:Cx}
theorem sL:∀{cs:List Addr} {us:List Value},Vals (cs.map V.ref) us->us=cs.map Value.ref
 | [],_,r=>by cases r;rfl
 | c::cs,_,.cons h t=>by rw [sL t,show _=Value.ref c from h];rfl
theorem o5:dW X (.builtin "isinstance") (FH X.K):=by
 intro pins s Gf H vs us Q I rv h
 cases h with
 | own e C D b hv he T hk q =>
  subst hv
  obtain⟨u,w',rfl,ru,rw'⟩:=vals2 rv
  cases (show u=Value.ref e from ru)
  cases (show w' = Value.ref D from rw')
  exact kia_one (o4 T) I.en (rC I.aL he) hk (fun z=>nomatch z) fun tk=>⟨.bl b,H,I.tok tk,rfl,q⟩
 | bi e C T' b hv he T hk q =>
  subst hv
  obtain⟨u,w',rfl,ru,rw'⟩:=vals2 rv
  cases (show u=Value.ref e from ru)
  cases (show w' = Value.type T' from rw')
  exact kia_one (o4 T) I.en (rC I.aL he) hk (fun z=>nomatch z) fun tk=>⟨.bl b,H,I.tok tk,rfl,q⟩
 | tup e C tp cs b hv he T ht hk q =>
  subst hv
  obtain⟨u,w',rfl,ru,rw'⟩:=vals2 rv
  cases (show u=Value.ref e from ru)
  cases (show w' = Value.ref tp from rw')
  obtain⟨_,its,r,o,h1,h2,n,h3,h4⟩:=(show bM X.prog X.w H s.heap tp (.tup (cs.map V.ref)) from I.aL tp _ ht)
  obtain⟨oc,od,odt,osl⟩:=o
  cases (show oc=_ from h2)
  cases (show odt=_ from h3)
  have hr:=sL r
  subst hr
  exact kia_tup (o4 T) I.en (rC I.aL he) h1 hk (fun z=>nomatch z) fun tk=>⟨.bl b,H,I.tok tk,rfl,q⟩
end
section
variable {P:Program}{w:World}{H H':Hp}{h h':Heap}{a:Addr}{o:HO}
theorem bM.get (x:bM P w H h a o):∃u,h.get? a=some u:=by
 cases o with
 | lst xs=>obtain⟨_,_,_,_,e⟩:=x;exact⟨_,e⟩
 | tup xs=>obtain⟨_,_,_,o,e,_⟩:=x;exact⟨_,e⟩
 | dK kvs=>obtain⟨_,_,_,_,o,_,_,e,_⟩:=x;exact⟨_,e⟩
 | dT kvs=>obtain⟨_,_,_,_,o,_,_,e,_⟩:=x;exact⟨_,e⟩
 | set S n=>obtain⟨o,_,_,_,e,_⟩:=x;exact⟨_,e⟩
 | ins C dx fs=>obtain⟨_,_,_,e,_⟩:=x;exact⟨_,e⟩
 | own y=>obtain⟨_,e⟩:=x;exact⟨_,e⟩
 | xd fs=>obtain⟨_,⟨_,_,_,e,_⟩,_⟩:=x;exact⟨_,e⟩
 | Bp lo hi=>obtain⟨_,_,_,e⟩:=x;exact⟨_,e⟩
 | d5 ob u=>obtain⟨e,_⟩:=x;exact⟨_,e⟩
 | lH ps=>exact⟨_,(show h.get? a=some _ from x)⟩
 | met f y=>exact⟨_,(show h.get? a=some _ from x)⟩
 | ext φ=>obtain⟨_,⟨u,e⟩,_⟩:=x;exact⟨u,e⟩
theorem dn.jH (x:dn P w H h)(k:∀b u v,H b=some v->h.get? b=some u->h'.get? b=some u):dn P w H h':=fun a o e =>
 (x a o e).jP (fun b u hb q=>by
  rcases hb with rfl | hb
  ·exact k _ u _ e q
  ·exact k b u _ hb q) (fun _ q=>q) fun _ _ q=>q
end
structure Gb (outer:List Env) (old:Heap) (H':Hp) (ea:Addr) (cls:Value) (h:Heap):Prop where
 aZ:H' ea=none
 new:old.get? ea=none
 E1:∃B a0,Heap.FlyingW B outer ea cls a0 h/\∀b o,h.get? b=some o->((∃v,H' b=some v)\/∃u,old.get? b=some u)->b∉cD outer->B.get? b=some o
inductive wQ (P:Program) (w:World) (outer:List Env) (H:Hp) (s:Shared) (E:XK) (e:Value) (s':Shared):Prop
 | mk (ea:Addr) (cls:Value) (H':Hp) (_:e=.ref ea) (_:s'.os=s.os) (_:AllBare s'.gens) (_:Un (cD outer) [] H H' s.heap s'.heap) (_:dn P w H' s'.heap) (_:Gb outer s.heap H' ea cls s'.heap) (_:E cls none H')
abbrev gu (P:Program)(w:World):lK:=wQ P w
section
variable {X:Cx}{pins:List (Addr×Obj)}{Gf : St}{H H':Hp}{s s':Shared}
theorem fR {env:Env}{outer:List Env}{L:Addr}(hf:env.frame=some L){b:Addr}:b∈cD (env::outer)↔b=L\/b∈cD outer:=by
 unfold cD
 rw [HF,hf]
 exact Gn
theorem EM {l:List Env}:∀env∈l,∀b,env.frame=some b->b∈cD l:=fun env he b hb=>Ic.mpr ⟨env,he,hb⟩
theorem uW {outer:List Env}{h0 h1 h2:Heap}{ea:Addr}{cls a0:Value}{B:Heap}{l:List Env}(un:Un (cD outer) [] H H' h0 h1)
  (kp:∀b o,h1.get? b=some o->b∉cD l->((∃v,H' b=some v)\/∃u,h0.get? b=some u)->h2.get? b=some o)
  (sl:∀b o,h1.get? b=some o->b∈cD l->∃sl,h2.get? b=some { o with slots:=sl })
  (hl:∀b∈cD l,b∈cD outer\/h0.get? b=none) (hs:∀b∈cD outer,b∈cD l):Un (cD outer) [] H H' h0 h2 where
 keep:=fun b o q n hb hx=>kp b o (un.keep b o q n hb hx) (fun z=>by
  rcases hl b z with y | y
  ·exact hb y
  ·rw [q] at y;cases y) (.inr ⟨o,q⟩)
 slot:=fun b o q n hb hx=>by
  obtain⟨s1,e1⟩:=un.slot b o q n hb hx
  obtain⟨s2,e2⟩:=sl b _ e1 (hs b hb)
  exact⟨s2,e2⟩
 free:=un.free
 there:=fun b o q hx=>by
  obtain⟨o',e1⟩:=un.there b o q hx
  by_cases z:b∈cD l
  ·obtain⟨s2,e2⟩:=sl b _ e1 z
   exact⟨_,e2⟩
  ·exact⟨_,kp b o' e1 z (.inr ⟨o,q⟩)⟩
 aK:=un.aK
 fF:=un.fF
 fH:=un.fH
end
section
variable {P:Program}{w:World}{K:Gh}{mg:Str->Option Value}{base:Heap}{N:List Str}{qual:Str}{scope:Scope}{f:Addr}{cd:Value}{A:Around}{outer:List Env}{s s2:Shared}{H H1:Hp}{E:XK}{pins:List (Addr×Obj)}{Gf : St}
theorem mQ (I:Inv (ff (gu P w) P w K mg base N qual scope f cd A outer s H E) pins Gf H1 s2){b:Addr}{u:Obj}(h:s.heap.get? b=some u):b≠s.heap.objs.size:=Gs (Gm h)
theorem xS (I:Inv (ff (gu P w) P w K mg base N qual scope f cd A outer s H E) pins Gf H1 s2){h':Heap}{e:Addr}{cls:Value}{args:List Value}(hx:Heap.MadeExcOf s2.heap h' e cls args)(q:E cls none H1) :
  (ff (gu P w) P w K mg base N qual scope f cd A outer s H E).xe (.ref e) { s2 with heap:=h' }:=by
 have hst:=I.stack
 show wpAny (model P w) (A.deeper (envOfC qual scope s.heap.objs.size f cd)) (leaving (envOfC qual scope s.heap.objs.size f cd) (.ref e)) (fun _ s''=>wQ P w outer H s E (.ref e) s'') (fun e' s''=>wQ P w outer H s E e' s'') _
 have fL:(envOfC qual scope s.heap.objs.size f cd).frame=some s.heap.objs.size:=rfl
 have hstk:s2.heap.FunFrames base (envOfC qual scope s.heap.objs.size f cd::outer):=hst
 have free:∀b∈cD (envOfC qual scope s.heap.objs.size f cd::outer),H1 b=none:=I.j3
 refine wpAny_leaves_madeW (base:=hideAll s2.heap (cD (envOfC qual scope s.heap.objs.size f cd::outer))) (outer:=outer) I.ok.frames fL (fun b o q=>of_hideAll _ q) (funFrames_hide hstk EM) hx fun h'' t hfl htup ht hup=>?_
 have kp:∀b o,s2.heap.get? b=some o->b∉cD (envOfC qual scope s.heap.objs.size f cd::outer)->h''.get? b=some o:=fun b o e1 e2=>hfl.1 b o (hideAll_get _ e1 e2)
 have sl:∀b o,s2.heap.get? b=some o->b∈cD (envOfC qual scope s.heap.objs.size f cd::outer)->∃sl,h''.get? b=some { o with slots:=sl }:=fun b o e1 e2=>by
  obtain⟨_,o',ho,hn⟩:=hstk.mem e2
  rw [e1] at ho;cases ho
  exact hup b o (hx.keeps b o e1) hn
 have ub:Un (cD outer) [] H H1 s.heap s2.heap:=I.base
 have nT:∀b v,H1 b=some v->b∉cD (envOfC qual scope s.heap.objs.size f cd::outer):=fun b v e1 e2=>by rw [free b e2] at e1;cases e1
 refine⟨e,cls,H1,rfl,I.os,I.bare,uW (ea:=e) (cls:=cls) (a0:=.none) (B:=h') (l:=envOfC qual scope s.heap.objs.size f cd::outer) ub (fun b o e1 e2 _=>kp b o e1 e2) sl (fun b hb=>?_) (fun b hb=>(fR fL).mpr (.inr hb)),?_,⟨?_,?_,_,_,hfl,fun b o e1 e2 e3=>?_⟩,q⟩
 ·rcases (fR fL).mp hb with z | z
  ·right;rw [z];exact IH (Gj _)
  ·exact .inl z
 ·exact dn.jH I.aL fun b u v e1 e2=>kp b u e2 (nT b v e1)
 ·cases z:H1 e with
  | none=>rfl
  | some v =>
   obtain⟨u,hu⟩:=(I.aL e v z).get
   have:=hx.new
   rw [hu] at this;cases this
 ·cases z:s.heap.get? e with
  | none=>rfl
  | some u =>
   obtain⟨o',ho⟩:=ub.there e u z (by simp)
   have:=hx.new
   rw [ho] at this;cases this
 ·have nf:b∉cD (envOfC qual scope s.heap.objs.size f cd::outer):=fun z=>by
   rcases (fR fL).mp z with y | y
   ·rcases e2 with ⟨v,hv⟩ | ⟨u,hu⟩
    ·exact nT b v hv z
    ·exact mQ I hu y
   ·exact e3 y
  obtain⟨o2,ho2⟩:∃o2,s2.heap.get? b=some o2:=by
   rcases e2 with ⟨v,hv⟩ | ⟨u,hu⟩
   ·exact (I.aL b v hv).get
   ·exact ub.there b u hu (by simp)
  have:=kp b o2 ho2 nf
  rw [e1] at this;cases this
  exact hideAll_get _ ho2 nf
theorem wR:Passes (gu P w) (ff (gu P w) P w K mg base N qual scope f cd A outer s H E) E:=by
 intro pins Gf H1 s2 e s3 I hc
 obtain⟨ea,cls,H',rfl,hos,hb,un,aL,E1,q⟩:=hc
 obtain⟨hn,hnew,B,a0,hfl,hk⟩:=E1
 have hst:=I.stack
 have fL:(envOfC qual scope s.heap.objs.size f cd).frame=some s.heap.objs.size:=rfl
 have hfl:Heap.FlyingW B (envOfC qual scope s.heap.objs.size f cd::outer) ea cls a0 s3.heap:=hfl
 have hk:∀b o,s3.heap.get? b=some o->((∃v,H' b=some v)\/∃u,s2.heap.get? b=some u)->b∉cD (envOfC qual scope s.heap.objs.size f cd::outer)->B.get? b=some o:=hk
 have un:Un (cD (envOfC qual scope s.heap.objs.size f cd::outer)) [] H1 H' s2.heap s3.heap:=un
 have ub:Un (cD outer) [] H H1 s.heap s2.heap:=I.base
 have hstk:s2.heap.FunFrames base (envOfC qual scope s.heap.objs.size f cd::outer):=hst
 have free:∀b∈cD (envOfC qual scope s.heap.objs.size f cd::outer),H1 b=none:=I.j3
 have free':∀b∈cD (envOfC qual scope s.heap.objs.size f cd::outer),H' b=none:=fun b hb=>by
  obtain⟨_,o,ho,_⟩:=hstk.mem hb
  exact un.free b o ho (free b hb) (by simp)
 show wpAny (model P w) (A.deeper (envOfC qual scope s.heap.objs.size f cd)) (leaving (envOfC qual scope s.heap.objs.size f cd) (.ref ea)) (fun _ s''=>wQ P w outer H s E (.ref ea) s'') (fun e' s''=>wQ P w outer H s E e' s'') _
 refine wpAny_leaves_onW (outer:=outer) I.ok.frames fL hfl fun h'' hfl' hup=>?_
 have kp:∀b o,s3.heap.get? b=some o->b∉cD (envOfC qual scope s.heap.objs.size f cd::outer)->((∃v,H' b=some v)\/∃u,s2.heap.get? b=some u)->h''.get? b=some o:=fun b o e1 e2 e3=>hfl'.1 b o (hk b o e1 e3 e2)
 have sl:∀b o,s3.heap.get? b=some o->b∈cD (envOfC qual scope s.heap.objs.size f cd::outer)->∃sl,h''.get? b=some { o with slots:=sl }:=fun b o e1 e2=>by
  obtain⟨_,o',ho,hn⟩:=hfl.2.2.1.mem e2
  rw [e1] at ho;cases ho
  exact hup b o e1 hn
 have nT:∀b v,H' b=some v->b∉cD (envOfC qual scope s.heap.objs.size f cd::outer):=fun b v e1 e2=>by rw [free' b e2] at e1;cases e1
 have old:∀b u,s.heap.get? b=some u->∃u,s2.heap.get? b=some u:=fun b u hu=>ub.there b u hu (by simp)
 have up:Un (cD outer) [] H H' s.heap s3.heap:=by
  refine⟨fun b o q n hb hx=>?_,fun b o q n hb hx=>?_,fun b o q n hx=>?_,fun b o q hx=>?_,fun b xs e=>un.aK b xs (ub.aK b xs e),fun b o xs e=>un.fF b o xs (ub.fF b o xs e),fun b ps e=>?_⟩
  ·exact un.keep b o (ub.keep b o q n hb hx) (ub.free b o q n hx) (fun z=>by
    rcases (fR fL).mp z with y | y
    ·exact mQ I q y
    ·exact hb y) hx
  ·obtain⟨s1,e1⟩:=ub.slot b o q n hb hx
   obtain⟨s4,e2⟩:=un.slot b _ e1 (ub.free b o q n hx) ((fR fL).mpr (.inr hb)) hx
   exact⟨s4,e2⟩
  ·obtain⟨o',e1⟩:=ub.there b o q hx
   exact un.free b o' e1 (ub.free b o q n hx) hx
  ·obtain⟨o',e1⟩:=ub.there b o q hx
   exact un.there b o' e1 hx
  ·obtain⟨m1,e1⟩:=ub.fH b ps e
   obtain⟨m2,e2⟩:=un.fH b _ e1
   exact⟨m1++m2,by rw [e2,Array.append_assoc]⟩
 refine⟨ea,cls,H',rfl,hos.trans I.os,hb,uW (ea:=ea) (cls:=cls) (a0:=.none) (B:=B) (l:=envOfC qual scope s.heap.objs.size f cd::outer) up (fun b o e1 e2 e3=>kp b o e1 e2 (e3.imp id fun ⟨u,hu⟩=>old b u hu)) sl (fun b hb=>?_) (fun b hb=>(fR fL).mpr (.inr hb)),?_,⟨hn,?_,B,a0,hfl',fun b o e1 e2 e3=>?_⟩,q⟩
 ·rcases (fR fL).mp hb with z | z
  ·right;rw [z];exact IH (Gj _)
  ·exact .inl z
 ·exact dn.jH aL fun b u v e1 e2=>kp b u e2 (nT b v e1) (.inl ⟨v,e1⟩)
 ·cases z:s.heap.get? ea with
  | none=>rfl
  | some u =>
   obtain⟨o',ho⟩:=old ea u z
   rw [hnew] at ho;cases ho
 ·have nf:b∉cD (envOfC qual scope s.heap.objs.size f cd::outer):=fun z=>by
   rcases (fR fL).mp z with y | y
   ·rcases e2 with ⟨v,hv⟩ | ⟨u,hu⟩
    ·exact nT b v hv z
    ·exact mQ I hu y
   ·exact e3 y
  have e2':(∃v,H' b=some v)\/∃u,s2.heap.get? b=some u:=e2.imp id fun ⟨u,hu⟩=>old b u hu
  obtain⟨o2,ho2⟩:∃o2,s3.heap.get? b=some o2:=by
   rcases e2' with ⟨v,hv⟩ | ⟨u,hu⟩
   ·exact (aL b v hv).get
   ·exact un.there b u hu (by simp)
  have z:=kp b o2 ho2 nf e2'
  rw [e1] at z;cases z
  exact hk b o ho2 e2' nf
end
theorem CW {K:Frag}{h:Heap}{C:Addr}{bmB:List Value}{newId:String}(X:K.In h)(q:excIn K C bmB newId=true) :
  ∃bm N nm qn bs hdct sn sub ab col dd k0 k1 k2 k3 k5 mN,h.get? C=some (excClassObj nm qn C N bs bm hdct sn sub ab col dd k0 k1 k2 k3 k5 newId)/\h.Ns N mN/\mN "__init__" = none/\OwnTail h bmB bm:=by
 unfold excIn at q
 split at q
 ·rename_i dd cd sl ho
  split at q
  ·rename_i C' bm k0 k1 k2 k3 n k5 hm hs
   simp only [G3,beq_iff_eq,Bool.not_eq_true'] at q
   obtain⟨⟨⟨⟨⟨e1,e2⟩,hdel⟩,ht⟩,aL⟩,hni⟩:=q
   subst e1 e2
   obtain⟨nm,bs,mro,ns,qn,hd,sn,sub,ab,col,del⟩:=cd
   dsimp only at hm hdel aL hni
   subst hm hdel
   obtain⟨l⟩:=sl
   simp only at hs
   subst hs
   exact⟨bm,ns,nm,qn,bs,hd,sn,sub,ab,col,dd,k0,k1,k2,k3,k5,_,X _ _ ho,.of_isNs (isNs_of_in X aL),nsMap_none_of_in X aL hni,tail_of_in X ht⟩
  ·cases q
 ·cases q
section
variable {X:Cx}
inductive Gd (te:TE) (Gf : St) (H:Hp) (Q:VK):Prop
 | mk (_:te Gf H fun x H1=>∃i:Int,x=.int i/\i.natAbs<10 ^ 30/\∀y:Str,y.length<=1000->Q (.str y) H1)
theorem CY {i:Int}(h:i.natAbs<10 ^ 30):(Str.ofString (toString i)).length<=31:=by
 have e:=int_text_length_le10 (k:=30) (by decide) h
 have:(Str.ofString (toString i)).length=(toString i).length:=PySem.ofString_length _
 omega
theorem CZ {i:Int}(h:i.natAbs<10 ^ 30):i.natAbs.log2<1920:=by
 by_cases z:i.natAbs=0
 ·rw [z];decide
 ·exact (Nat.log2_lt z).mpr (HV h (by decide +kernel))
theorem qy {a b:Str}{ka kb:Nat}{pa pb pe pos:Pos}{e:Expr}{te:TE}(he:PE X e te)(ha:a.length<=400:=by decide +kernel)(hb:b.length<=400:=by decide +kernel) :
  PE X (.JoinedStr [.Constant (.str a) ka pa,.FormattedValue e (-1) none pe,.Constant (.str b) kb pb] pos) (Gd te):=by
 intro pins s Gf H Q I h
 obtain⟨h⟩:=h
 have hz:1000<=sizeLine:=by decide
 refine JoinedStr_many (joinParts_cons (Calls.Constant_str ⟨?_,?_⟩))
 ·rw [strLen_append];show 0+_<=_;omega
 refine joinParts_cons (FormattedValue_plain (bB (he pins _ Gf H _ (I.tok _) h) fun u s1 ⟨x,H1,I1,rx,i,hi,hl,q⟩=>?_))
 subst hi
 obtain⟨t,rfl⟩:=(show ∃t,u=Value.int i t from rx)
 have hn:=CY hl
 refine formatField_int_small (CZ hl) ⟨?_,?_⟩
 ·rw [strLen_append,strLen_append];show 0+_+(Str.ofString (toString i)).length<=_;omega
 refine joinParts_cons (Calls.Constant_str ⟨?_,?_⟩)
 ·rw [strLen_append,strLen_append,strLen_append];show 0+_+(Str.ofString (toString i)).length+_<=_;omega
 refine joinParts_nil ⟨.str _,H1,(I1.tok _),⟨_,rfl⟩,q _ ?_⟩ ?_
 ·rw [strLen_append,strLen_append,strLen_append];show 0+_+(Str.ofString (toString i)).length+_<=_;omega
 ·rw [strLen_append,strLen_append,strLen_append];show 0+_+(Str.ofString (toString i)).length+_<=_;omega
end
section
variable {P:Program}{w:World}{K:Gh}{mg:Str->Option Value}{base:Heap}{N:List Str}{qual:Str}{scope:Scope}{f:Addr}{cd:Value}{A:Around}{outer:List Env}{s:Shared}{H:Hp}{E:XK}
inductive Ef (C:Addr) (E:XK) (t:TA) (D:Ends) (Gf : St) (H:Hp):Prop
 | mk (_:t Gf H fun vs H1=>vs.length<=1000/\E (.ref C) none H1)
theorem kR {x:Str}{C:Addr}{e:Expr}{es:List Expr}{t:TA}{np cpos pos:Pos}(T:jU K C)(hm:mg x=some (.ref C))
  (ha:PA (ff (gu P w) P w K mg base N qual scope f cd A outer s H E) (e::es) t)
  (hg:Gl (ff (gu P w) P w K mg base N qual scope f cd A outer s H E) x:=by rfl) (hdb:(x == ("__debug__" : Str))=false:=by decide)
  (he:starEach (e::es) (ff (gu P w) P w K mg base N qual scope f cd A outer s H E).env=(false,eval e (ff (gu P w) P w K mg base N qual scope f cd A outer s H E).env)::starEach es (ff (gu P w) P w K mg base N qual scope f cd A outer s H E).env:=by rfl)
  (hpl:(backTo cpos (starEach es (ff (gu P w) P w K mg base N qual scope f cd A outer s H E).env)).any (·.1)=false:=by rfl) :
  PS (ff (gu P w) P w K mg base N qual scope f cd A outer s H E) (.Raise (some (.Call (.Name x np) (e::es) [] cpos)) none pos) (Ef C E t):=by
 intro pins s1 Gf H1 D I h
 obtain⟨h⟩:=h
 obtain⟨bm,N',nm,qn,bs,hdct,sn,sub,ab,col,dd,k0,k1,k2,k3,k5,mN,hC,hN,hni,T1⟩:=CW (h:=base) I.ok.mod.jE T.ok
 refine wpAny_Raise_call_subU (C:=C) (N:=N') (nm:=nm) (q:=qn) (bs:=bs) (bm:=bm) (hdct:=hdct) (sn:=sn) (sub:=sub) (ab:=ab) (col:=col) (dd:=dd) (k0:=k0) (k1:=k1) (k2:=k2) (k3:=k3) (k5:=k5) (mN:=mN) PySem.F.excBase_ValueError PySem.F.excBase_ValueError.hasB PySem.F.excBase_ValueError (T1.hasType PySem.F.excBase_ValueError.hasBase) (I.ok.hd rfl) (by rw [he];show (false||_)=false;exact hpl) hni ?_
 refine j4 I hg hm ⟨rfl,?_⟩ hdb
 have ha':=ha cpos pins s1 Gf H1 _ I h
 rw [he] at ha' ⊢
 refine Calls.evalArgs_plain (bB ha' fun us s2 ⟨vs,H2,I2,r,hl,q⟩=>?_)
 have bk:∀b o,base.get? b=some o->s2.heap.get? b=some o:=I2.bk
 refine⟨rfl,?_,bk _ _ hC,hN.keeps bk,T1.keeps bk,fun h' e hx=>xS I2 hx q⟩
 show us.length<=sizeLine
 rw [<-r.length]
 exact Gr hl (by decide)
end
theorem bA.calm {P:Program}{w:World}{K:Gh}{mg:Str->Option Value}{base:Heap}{k:Nat}{f:Addr}{fd:FuncData}{ps:List Str}{sp sp':Sp}(F:bA P w K mg base (gu P w) k f fd ps sp)(h:∀vs H Q E,sp' vs H Q E->sp vs H Q E0):bA P w K mg base bX k f fd ps sp' :=
 ⟨fun vs H Q E q=>F.len vs H Q E0 (h _ _ _ _ q),fun A outer s H args us vs Q E hr he hb hv hs=>Jh (F.run A outer s H args us vs Q E0 hr he hb hv (h _ _ _ _ hs)) fun r s' h=>by
  cases r with
  | ok fl=>cases fl <;> exact h
  | error e=>obtain⟨_,_,_,_,_,_,_,_,_,z⟩:=h;exact z.elim⟩
structure o6 (P:Program) (w:World) (K:Gh) (mg:Str->Option Value) (base:Heap) (x:Str) (k:Nat) (ps:List Str) (sp:Sp):Prop where
 ex:∃f fd,bA P w K mg base (gu P w) k f fd ps sp/\mg x=some (.ref f)/\Hd K (.ref f)=true/\Binds K fd ps []
theorem o6.calm {P:Program}{w:World}{K:Gh}{mg:Str->Option Value}{base:Heap}{x:Str}{k:Nat}{ps:List Str}{sp sp':Sp}(o:o6 P w K mg base x k ps sp)(h:∀vs H Q E,sp' vs H Q E->sp vs H Q E0):Own P w K mg base x k ps sp' :=
 let ⟨f,fd,F,a,b,c⟩:=o.ex;⟨f,fd,F.calm h,a,b,c⟩
section
variable {X:Cx}{C:Addr}{x:Str}{k m:Nat}{ps:List Str}{sp:Sp}{e:Expr}{es:List Expr}{t:TA}{p pos:Pos}{E:XK}
theorem qA (o:o6 X.prog X.w X.K X.mg X.base x k ps sp)(hx:Passes (gu X.prog X.w) X E)(hr:de m X.A)(ha:PA X (e::es) t)(hk:k<=m:=by decide)(hg:Gl X x:=by rfl)(hdb:(x == ("__debug__" : Str))=false:=by decide)
  (he:starEach (e::es) X.env=(false,eval e X.env)::starEach es X.env:=by rfl) (hpl:(backTo pos (starEach es X.env)).any (·.1)=false:=by rfl):PE X (.Call (.Name x p) (e::es) [] pos) (tG sp [] E t):=by
 obtain⟨f,fd,F,hm,hk',hb⟩:=o.ex
 exact vQ F (hr.mono hk) hg hm hk' hb .nil hx ha hdb he hpl
end
section
variable {P:Program}{w:World}{K:Gh}{mg:Str->Option Value}{base:Heap}
theorem b0.E3 {x qual:Str}{st:Stmt}{f:Addr}{fd:FuncData}{N ps:List Str}{k:Nat}{sp:Sp}(F:b0 K x qual st f fd)(S:aR N ps (aw st))(len:∀vs H Q E,sp vs H Q E->vs.length=ps.length)
  (hbody:∀(cdv:Value) (A:Around) (outer:List Env) (s:Shared) (H:Hp) (vs:List V) (Q:VK) (E:XK),de k (A.deeper (envOfC qual (aw st) s.heap.objs.size f cdv))->sp vs H Q E ->
   ∃t,fX (ff (gu P w) P w K mg base N qual (aw st) f cdv A outer s H E) (dt st) t/\t { nx:=fun _ H'=>Q .aZ H',rt:=Q } (start N vs) H):bA P w K mg base (gu P w) (k+1) f fd ps sp:=by
 obtain⟨oc,od,kV,doc,pm,an,cdv,ct,osl,rfl,lk,hcd⟩:=F.ex
 exact xi lk hcd S len fun A outer s H vs Q E hr hsp=>hbody cdv A outer s H vs Q E hr hsp
end
section
variable {X:Cx}
def Cx.tries (X:Cx)(pn:List (Addr×Obj))(xe:Value->Shared->Prop):Cx:={ X with pn:=pn,xe:=xe }
def Cx.fS (X:Cx)(e:Addr):Cx:={ X with A:=X.A.mark (some (.ref e)),calm:=false,xe:=fun _ _=>False }
theorem Cx.Ok.tries {pn:List (Addr×Obj)}{xe:Value->Shared->Prop}(ok:X.Ok):(X.tries pn xe).Ok :=
 ⟨ok.mod,ok.kind,ok.glob,ok.blt,ok.above,ok.inj,ok.has,ok.rP,ok.hd,ok.frames,ok.tL,ok.yg,ok.bs,ok.lI,ok.lU,ok.oz,ok.gC,ok.nR⟩
theorem Cx.Ok.gJ {pn:List (Addr×Obj)}{xe:Value->Shared->Prop}(ok:(X.tries pn xe).Ok):X.Ok :=
 ⟨ok.mod,ok.kind,ok.glob,ok.blt,ok.above,ok.inj,ok.has,ok.rP,ok.hd,ok.frames,ok.tL,ok.yg,ok.bs,ok.lI,ok.lU,ok.oz,ok.gC,ok.nR⟩
theorem Cx.Ok.fS {e:Addr}(ok:X.Ok):(X.fS e).Ok :=
 ⟨ok.mod,ok.kind,ok.glob,ok.blt,ok.above,ok.inj,ok.has,ok.rP,(fun z=>nomatch z),ok.frames,ok.tL,ok.yg,ok.bs,ok.lI,ok.lU,ok.oz,ok.gC,ok.nR⟩
variable {pins:List (Addr×Obj)}{Gf : St}{H:Hp}{s:Shared}
theorem Inv.tries {xe:Value->Shared->Prop}(I:Inv X pins Gf H s):Inv (X.tries (X.pn++pins) xe) [] Gf H s :=
 ⟨I.ok.tries,I.os,I.bare,I.base,I.loc,I.cell,I.free,I.dz,fun p hp=>I.pin p (by rw [Hm] at hp;exact hp),I.aL,I.len⟩
theorem Inv.gJ {xe:Value->Shared->Prop}{pins':List (Addr×Obj)}(I:Inv (X.tries (X.pn++pins) xe) pins' Gf H s):Inv X pins Gf H s :=
 ⟨I.ok.gJ,I.os,I.bare,I.base,I.loc,I.cell,I.free,I.dz,fun p hp=>I.pin p (GV _ hp),I.aL,I.len⟩
theorem Inv.fS {e:Addr}(I:Inv X pins Gf H s):Inv (X.fS e) pins Gf H s:=⟨I.ok.fS,I.os,I.bare,I.base,I.loc,I.cell,I.free,I.dz,I.pin,I.aL,I.len⟩
theorem Inv.uncaught {e:Addr}(ok:X.Ok)(I:Inv (X.fS e) pins Gf H s):Inv X pins Gf H s:=⟨ok,I.os,I.bare,I.base,I.loc,I.cell,I.free,I.dz,I.pin,I.aL,I.len⟩
theorem vn {M:Model} {A:Around} {E:Value->Shared->Prop} {K:Frag} {e CE C:Addr} {Q:Bool->Shared->Prop} (KI:K.In s.heap) (I:iH s.heap e CE) (hb:mroIn K C (.type "BaseException")=some true) (ht:typeIn K (.ref C)=some (.type "type")) (hs:mroIn K CE (.ref C)=some true) (hq:Q true s) :
  wpAny M A (excMatches (.ref e) (.ref C)) Q E s:=by
 have T0:=I.ty (M:=M)
 have T1:=looks_mroIn (M:=M) KI hb
 have T2:=looks_mroIn (M:=M) KI hs
 have T3:=looks_typeIn (M:=M) KI ht
 have f:=tc_notTuple
 obtain⟨cd,hc,_⟩:=Option.bind_eq_some_iff.mp hb
 have lk:∃c d sl,K.lookup C=some ⟨c,d,.cls cd,sl⟩:=by
  unfold clsIn at hc
  split at hc
  ·rename_i ho;cases hc;exact⟨_,_,_,ho⟩
  ·cases hc
 obtain⟨c',d',sl',ho⟩:=lk
 have hC:=KI _ _ ho
 obtain⟨hh,g,d,t,os⟩:=s
 unfold excMatches
 repeat (any_goals (first | assumption | (with_reducible refine T0.at ?_) | (with_reducible refine T1.at ?_) | (with_reducible refine T2.at ?_) | (with_reducible refine T3.at ?_) | (with_reducible refine wpAny_loadPart_at hC ?_) | wp_step))
theorem Inv.EN {e:Addr}{o:HO}(I:Inv X pins Gf H s)(n0:X.dJ.heap.get? e=none)(nL:e≠X.env.locals)(nC:∀x c,X.env.cells.lookup x=some c->c≠e)(nP:∀p∈X.pn++pins,p.1≠e)(he:H e=none)(new:bM X.prog X.w (upd H e o) s.heap e o):Inv X pins Gf (upd H e o) s:=by
 have hb:∀b u,H b=some u->(upd H e o) b=some u:=fun b u q=>by rw [ao (ar q he)];exact q
 refine⟨I.ok,I.os,I.bare,⟨I.base.keep,I.base.slot,fun b u q n hx=>?_,I.base.there,fun b xs q=>hb _ _ (I.base.aK b xs q),fun b u xs q=>hb _ _ (I.base.fF b u xs q),fun b ps q=>?_⟩,I.loc,I.cell,?_,fun x c q=>?_,fun p hp=>?_,fun b u q=>?_,I.len⟩
 ·rw [ao (fun z=>by rw [z,n0] at q;cases q)];exact I.base.free b u q n hx
 ·obtain⟨m,q'⟩:=I.base.fH b ps q
  exact⟨m,hb _ _ q'⟩
 ·rw [ao (Ne.symm nL)];exact I.free
 ·rw [ao (nC x c q)];exact I.dz x c q
 ·obtain⟨a,b,c⟩:=I.pin p hp
  exact⟨a,by rw [ao (nP p hp)];exact b,c⟩
 ·by_cases z:b=e
  ·subst z;rw [aa] at q;cases q;exact new
  ·rw [ao z] at q
   exact (I.aL b u q).jP (fun _ _ _ q=>q) (fun c q=>hb _ _ q) fun c xs q=>hb _ _ q
theorem jN {M:Model}{A:Around}{E:Value->Shared->Prop}{i:Nat}{n:Str}{pos:Pos}{Q:Unit->Shared->Prop}(I:Inv X pins Gf H s)(hN:X.N.Nodup)(hi:X.N[i]?=some n)(hl:X.env.kindOf n=some .local)
  (h:∀s',Inv X pins (Gf.set i none) H s'->Q () s'):wpAny M A (do bindName X.env n .none;unbindBehindTheSuite X.env n pos) Q E s:=by
 obtain⟨m,hn,hl'⟩:=id I.loc
 have hcls:(X.env.scope.kind == .class||(X.env.scope.kind == .module&&X.env.locals != X.env.globals))=false:=by rw [I.ok.kind];rfl
 refine wpAny_nameGoes_keeps hl hn hcls fun h' v hn' hs=>h _ ?_
 have oldne:∀b o,X.dJ.heap.get? b=some o->b≠X.env.locals:=fun b o e=>Gs (GO (Gm e) I.ok.above)
 refine⟨I.ok,I.os,I.bare,⟨fun b o e n hb hx=>(hs.2 b (oldne b o e)).trans (I.base.keep b o e n hb hx),fun b o e n hb hx=>?_,I.base.free,fun b o e hx=>?_,I.base.aK,I.base.fF,I.base.fH⟩,⟨_,hn',fun j y v' e1 e2 e3=>?_⟩,fun y c e=>?_,I.free,I.dz,fun p hp=>?_,fun b ob e=>?_,by simpa using I.len⟩
 ·obtain⟨sl,e1⟩:=I.base.slot b o e n hb hx
  exact⟨sl,(hs.2 b (oldne b o e)).trans e1⟩
 ·obtain⟨o',e1⟩:=I.base.there b o e hx
  exact⟨o',(hs.2 b (oldne b o e)).trans e1⟩
 ·by_cases hj:j=i
  ·subst hj
   have hlt:j<Gf.length:=by rw [I.len];exact (GH.mp hi).1
   rw [II hlt] at e2
   cases e2
  ·rw [IJ (Ne.symm hj)] at e2
   obtain⟨u',r',q⟩:=hl' j y v' e1 e2 e3
   refine⟨u',r',?_⟩
   rcases q with ⟨k,e⟩ | ⟨k,c,e,z⟩
   ·refine .inl ⟨k,?_⟩
    have:y≠n:=fun e=>hj (oA hN e1 (e ▸ hi))
    simp [this,e]
   ·exact .inr ⟨k,c,e,z.sameBut hs (I.pE y c e)⟩
 ·obtain⟨w',z⟩:=I.cell y c e
  exact⟨w',z.sameBut hs (I.pE y c e)⟩
 ·obtain⟨e,n,ne,nf,d⟩:=I.pin p hp
  exact⟨(hs.2 p.1 ne).trans e,n,ne,nf,d⟩
 ·have fr:=I.free
  refine (I.aL b ob e).jP (fun c w' hc q=>(hs.2 c ?_).trans q) (fun _ q=>q) fun _ _ q=>q
  rintro rfl
  rcases hc with rfl | hc
  ·rw [fr] at e;cases e
  ·rw [fr] at hc;cases hc
def rD (i:Nat)(D:Ends):Ends:={ nx:=fun Gf H=>D.nx (Gf.set i none) H,rt:=D.rt,bk:=fun Gf H=>D.bk (Gf.set i none) H,ct:=fun Gf H=>D.ct (Gf.set i none) H }
inductive FI (K:Frag) (N i:Nat) (C:Addr) (tb:List (Addr×Obj)->(Value->Shared->Prop)->XK->TS) (th:Addr->TS) (D:Ends) (Gf : St) (H:Hp):Prop
 | mk (XD:XK) (_:∀pn xe,tb pn xe XD D Gf H) (_:∀cls od H',XD cls od H'->∃CE,cls=.ref CE/\mroIn K CE (.ref C)=some true/\∀e,H' e=none->th e (rD i D) ((Hu N none).set i (some (.ref e))) (upd H' e (iW e CE)))
theorem Eg {i:Nat} {n cn:Str} {body:List Stmt} {b₀ : Stmt} {suite:List Stmt} {tb:List (Addr×Obj)->(Value->Shared->Prop)->XK->TS} {th:Addr->TS} {np hp pos:Pos} {C:Addr} (hN:X.N.Nodup) (T:jU X.K C) (ht:typeIn X.K (.ref C)=some (.type "type")) (hm:X.mg cn=some (.ref C))
  (hb:∀pn xe E,Passes (gu X.prog X.w) (X.tries pn xe) E->fX (X.tries pn xe) body (tb pn xe E)) (hh:∀e,fX (X.fS e) (b₀::suite) (th e))
  (hst:X.stack=X.env::X.outer:=by rfl) (hf:X.env.frame=some X.env.locals:=by rfl) (hex:X.ex=[]:=by rfl) (hi:X.N[i]?=some n:=by rfl) (hl:X.env.kindOf n=some .local:=by rfl) (hg:Gl X cn:=by rfl) (hd:(cn == ("__debug__" : Str))=false:=by decide) :
  PS X (.Try body [.ExceptHandler (some (.Name cn np)) (some n) (b₀::suite) hp] [] [] pos) (FI X.K X.N.length i C tb th):=by
 intro pins s Gf H D I h
 obtain⟨XD,h1,h2⟩:=h
 have B:=hb (X.pn++pins) (fun e s'=>∃pins' σ' H' s1,Inv (X.tries (X.pn++pins) fun _ _=>True) pins' σ' H' s1/\wQ X.prog X.w X.stack H' s1 XD e s') XD (fun pins' σ' H' s1 e s' I' hc=>⟨pins',σ',H',s1,⟨I'.ok.gJ.tries,I'.os,I'.bare,I'.base,I'.loc,I'.cell,I'.free,I'.dz,I'.pin,I'.aL,I'.len⟩,hc⟩) [] s Gf H D I.tries (h1 _ _)
 refine wpAny_Try_except (IY B (fun f s1 z=>?_) fun e s1 z=>?_)
 ·cases f with
  | next =>
   obtain⟨σ',H',I',q⟩:=z
   exact IX (show SP X pins D .next s1 from ⟨σ',H',I'.gJ,q⟩)
  | brk=>obtain⟨σ',H',I',q⟩:=z;exact⟨σ',H',I'.gJ,q⟩
  | cont=>obtain⟨σ',H',I',q⟩:=z;exact⟨σ',H',I'.gJ,q⟩
  | ret u=>obtain⟨v,σ',H',I',r,q⟩:=z;exact⟨v,σ',H',I'.gJ,r,q⟩
 obtain⟨pins',σ',H1,s0,I0,ea,cls,H2,rfl,hos,hbare,un,aL,⟨hn,hnew,Bs,a0,hfl,hk⟩,hXD⟩:=z
 obtain⟨CE,rfl,hsub,hth⟩:=h2 _ _ _ hXD
 have hth:=hth ea hn
 have hfr:X.A.frames=some (X.env::X.outer):=hst ▸ I.ok.frames
 have stk0:s0.heap.FunFrames X.base X.stack:=I0.stack
 have fr0:∀b∈cD X.stack,H1 b=none:=I0.j3
 have fr2:∀b∈cD X.stack,H2 b=none:=fun b hb=>by
  obtain⟨_,o,ho,_⟩:=stk0.mem hb
  exact un.free b o ho (fr0 b hb) (by simp)
 have nT:∀b v,H2 b=some v->b∉cD X.stack:=fun b v e1 e2=>by rw [fr2 b e2] at e1;cases e1
 have flyI:∀h6 a1,Heap.FlyingW Bs X.stack ea (.ref CE) a1 h6->s1.heap.UpToSlots h6->Inv X pins (Hu X.N.length none) H2 { s1 with heap:=h6 }/\Inv X pins (Hu X.N.length none) (upd H2 ea (iW ea CE)) { s1 with heap:=h6 }:=fun h6 a1 f6 up6=>by
  have kp:∀b o,s1.heap.get? b=some o->b∉cD X.stack->((∃v,H2 b=some v)\/∃u,s0.heap.get? b=some u)->h6.get? b=some o:=fun b o e1 e2 e3=>f6.1 b o (hk b o e1 e3 e2)
  have sl:∀b o,s1.heap.get? b=some o->b∈cD X.stack->∃sl,h6.get? b=some { o with slots:=sl }:=fun b o e1 e2=>by
   obtain⟨_,o',ho,hnf⟩:=hfl.2.2.1.mem e2
   rw [e1] at ho;cases ho
   exact up6 b o e1 hnf
  have un6:Un (cD X.stack) [] H1 H2 s0.heap h6:=uW (ea:=ea) (cls:=.ref CE) (a0:=.none) (B:=Bs) (l:=X.stack) un kp sl (fun b hb=>.inl hb) fun b hb=>hb
  have J:Inv (X.tries (X.pn++pins) fun _ _=>True) pins' σ' H2 { s1 with heap:=h6 }:=I0.Br (s':={ s1 with heap:=h6 }) hos un6 (dn.jH aL fun b u v e1 e2=>kp b u e2 (nT b v e1) (.inl ⟨v,e1⟩)) hbare (fun _ z=>nomatch z)
  have J2:Inv X pins (Hu X.N.length none) H2 { s1 with heap:=h6 }:=J.gJ.weak (by rw [HR];exact J.len.symm) fun k v e=>by
   rw [IP] at e
   split at e <;> cases e
  have there0:∀b o,s0.heap.get? b=some o->b≠ea:=fun b o e z=>by rw [z,hnew] at e;cases e
  refine⟨J2,J2.EN ?_ ?_ (fun x c e=>?_) (fun p hp=>?_) hn (CV ?_)⟩
  ·cases z:X.dJ.heap.get? ea with
   | none=>rfl
   | some u =>
    obtain⟨o',e1⟩:=I0.base.there ea u z (by show ea∉X.ex;rw [hex];exact fun z=>nomatch z)
    exact absurd rfl (there0 ea o' e1)
  ·obtain⟨m,⟨o,_,_,ho,_⟩,_⟩:=I0.loc
   exact fun z=>there0 _ o ho z.symm
  ·obtain⟨v,o,ho,_⟩:=I0.cell x c e
   exact there0 c o ho
  ·exact there0 p.1 p.2 (I0.pin p (GV _ hp)).1
  ·obtain⟨ob,e1,e2⟩:=f6.there
   exact⟨ob,e1,e2⟩
 have hfl':Heap.FlyingW Bs (X.env::X.outer) ea (.ref CE) a0 s1.heap:=hst ▸ hfl
 refine wpAny_looks_onW hfr hf hfl' fun h4 hheld hup4=>wpAny_landsW hheld fun h5 hfl5 hup5=>?_
 have up5:=hup4.trans hup5
 obtain⟨J5,_⟩:=flyI h5 a0 (hst ▸ hfl5) up5
 refine wpAny_handleBy_cons (codeAny_handlers_test (j4 (X:=X.fS ea) (J5.fS (e:=ea)) hg hm ?_ hd)) (by intro q;cases q)
 obtain⟨ob5,e5,c5⟩:=hfl5.there
 refine vn J5.en ⟨ob5,e5,c5⟩ T.bx ht hsub ?_
 refine codeAny_handlers_suite_as (lands_againW hfl5 fun h6 hfl6 hup6=>?_)
 obtain⟨_,J6⟩:=flyI h6 a0 (hst ▸ hfl6) (up5.trans hup6)
 refine jc (X:=X.fS ea) (v:=.ref ea) (J6.fS (e:=ea)) hN hi (.inl hl) rfl (fun s7 J7=>?_) (.inr hl)
 refine IY (hh ea pins s7 _ _ (rD i D) J7 hth) (fun f s8 z=>?_) fun _ _ z=>z.elim
 cases f with
 | next =>
  obtain⟨σ8,H8,J8,q⟩:=z
  exact jN (J8.uncaught I.ok) hN hi hl fun s9 J9=>⟨_,_,J9,q⟩
 | brk =>
  obtain⟨σ8,H8,J8,q⟩:=z
  exact jN (J8.uncaught I.ok) hN hi hl fun s9 J9=>⟨_,_,J9,q⟩
 | cont =>
  obtain⟨σ8,H8,J8,q⟩:=z
  exact jN (J8.uncaught I.ok) hN hi hl fun s9 J9=>⟨_,_,J9,q⟩
 | ret u =>
  obtain⟨v,σ8,H8,J8,r,q⟩:=z
  exact jN (J8.uncaught I.ok) hN hi hl fun s9 J9=>⟨v,_,_,J9,r,q⟩
end
structure xT (K:Gh) (mg:Str->Option Value) (cP cM cN cR cL cO:Addr):Prop where
 gP:mg "PlanError" = some (.ref cP)
 gM:mg "TooMany" = some (.ref cM)
 gN:mg "NoPiece" = some (.ref cN)
 gR:mg "NoRow" = some (.ref cR)
 gL:mg "NothingLeft" = some (.ref cL)
 gO:mg "NoPlan" = some (.ref cO)
 tP:jU K cP
 tM:jU K cM
 yP:typeIn K (.ref cP)=some (.type "type")
 sM:mroIn K cM (.ref cP)=some true
 kM:kitOne K (.ref cM) (.type "ValueError")=some true
 mM:kitAny K (.ref cM) [.ref cN,.ref cO,.ref cR,.ref cL]=some false
theorem sY:bootBuiltins "ValueError" = some (.type "ValueError"):=by decide +kernel
theorem Bc {K:Frag}{C:Addr}:kitOne K (.ref C) (.ref C)=some true:=by unfold kitOne;rw [if_pos (by simp)]
section
variable {P:Program}{w:World}{K:Gh}{mg:Str->Option Value}{base h:Heap}{x q m:Str}{st:Stmt}{f C:Addr}{fd:FuncData}{k:Nat}{ps:List Str}{sp:Sp}
theorem wU (P:Program)(w:World)(base:Heap)(X:K.In h)(G:h.Ns mainGlobals mg)(d:bI K x st f fd)(o:bA P w K mg base (gu P w) k f fd ps sp)(b:jM x x st ps):o6 P w K mg base x k ps sp:=⟨⟨_,_,o,G8 X G d.a,d.F.kp,d.F.binds b⟩⟩
end
section
variable {tops:Nat->Prop}{m m' N:Nat}
theorem uX (st:List Cp×List Nat)(l:Cp):st.1.length<=(cV tops m st l).1.length:=by
 show st.1.length<=(LS.putIn st.1 _).length
 unfold LS.putIn
 split
 ·exact Gj _
 ·rw [Gq];omega
theorem o7:∀(ls:List Cp) (st:List Cp×List Nat),st.1.length<=(ls.foldl (cV tops m) st).1.length
 | [],_=>Gj _
 | l::ls,st=>Gr (uX st l) (o7 ls _)
theorem zF {st:List Cp×List Nat}{l:Cp}(h:(cV tops m st l).1.length<=N)(h1:N<m)(h2:N<=m'):cV tops m' st l=cV tops m st l:=by
 have hl:=uX (tops:=tops) (m:=m) st l
 have e:br tops m' st.1 l=br tops m st.1 l:=by
  unfold br
  by_cases ht:tops l.1
  ·rw [if_pos ht,if_pos ht]
  ·rw [if_neg ht,if_neg ht]
   by_cases hin:l∈st.1
   ·rw [if_pos (.inl hin),if_pos (.inl hin)]
   ·have c1:l∈st.1\/st.1.length<m:=.inr (by omega)
    have e1:br tops m st.1 l=l:=by unfold br;rw [if_neg ht,if_pos c1]
    have e2:(cV tops m st l).1.length=st.1.length+1:=by
     show (LS.putIn st.1 (br tops m st.1 l)).length=_
     rw [e1]
     unfold LS.putIn
     rw [if_neg hin,Gq]
     rfl
    rw [if_pos c1,if_pos (.inr (by omega))]
 unfold cV
 rw [e]
theorem sN:∀(ls:List Cp) (st:List Cp×List Nat),(ls.foldl (cV tops m) st).1.length<=N->N<m->N<=m'->ls.foldl (cV tops m') st=ls.foldl (cV tops m) st
 | [],_,_,_,_=>rfl
 | l::ls,st,h,h1,h2=>by
  have h0:(cV tops m st l).1.length<=N:=Gr (o7 ls _) h
  show ls.foldl (cV tops m') (cV tops m' st l)=ls.foldl (cV tops m) (cV tops m st l)
  rw [zF h0 h1 h2]
  exact sN ls _ h h1 h2
theorem o8 {ps:List Piece}:∀(f:Nat) (cs:List Cp) (outs:List Piece),cs.length<=(cy tops m ps f cs outs).1.length
 | 0,cs,outs=>Gj _
 | f+1,cs,outs=>by
  unfold cy
  split
  ·exact Gj _
  ·split
   ·exact Gj _
   ·exact Gr (o7 _ (cs,[])) (o8 f _ _)
theorem sO {ps:List Piece}(h1:N<m)(h2:N<=m'):∀(f f':Nat) (cs:List Cp) (outs:List Piece),(cy tops m ps f cs outs).2.length=(cy tops m ps f cs outs).1.length->(cy tops m ps f cs outs).1.length<=N->N<=f' + outs.length->cy tops m' ps f' cs outs=cy tops m ps f cs outs
 | 0,f',cs,outs,he,hN,hf=>by
  have he:outs.length=cs.length:=he
  have hz:cs[outs.length]?=none:=List.getElem?_eq_none_iff.mpr (by omega)
  cases f' with
  | zero=>rfl
  | succ g=>unfold cy;rw [hz]
 | f+1,f',cs,outs,he,hN,hf=>by
  cases hc:cs[outs.length]? with
  | none =>
   have e1:cy tops m ps (f+1) cs outs=(cs,outs):=by unfold cy;rw [hc]
   rw [e1]
   cases f' with
   | zero=>rfl
   | succ g=>unfold cy;rw [hc]
  | some c =>
   have hlt:outs.length<cs.length:=(GH.mp hc).1
   cases hp:ps[c.1]? with
   | none =>
    have e1:cy tops m ps (f+1) cs outs=(cs,outs):=by unfold cy;rw [hc];dsimp only;rw [hp]
    rw [e1] at he
    have he:outs.length=cs.length:=he
    omega
   | some pc =>
    have e1:∀k g,cy tops k ps (g+1) cs outs=cy tops k ps g (aW tops k cs (cB (bD c.2 pc.1) pc.2)).1 (outs++[(pc.1,iu pc.2 (aW tops k cs (cB (bD c.2 pc.1) pc.2)).2)]):=fun k g=>by
     conv=>lhs;unfold cy
     rw [hc]
     dsimp only
     rw [hp]
    have hl:=o8 (tops:=tops) (m:=m) (ps:=ps) (f+1) cs outs
    cases f' with
    | zero=>omega
    | succ g =>
     rw [e1] at he hN
     have ea:aW tops m' cs (cB (bD c.2 pc.1) pc.2)=aW tops m cs (cB (bD c.2 pc.1) pc.2):=sN _ _ (Gr (o8 f _ _) hN) h1 h2
     rw [e1,e1,ea]
     exact sO h1 h2 f g _ _ he hN (by rw [Gq];show N<=g+(_+1);omega)
end
theorem kT {xs:List Str}{ps:List Piece}{k m m':Nat}(pok:b8 xs k ps)(hn0:0<ps.length)(hm:1<=m)(h1:(bL ps m).1.length<m)(h2:(bL ps m).1.length<=m'):bL ps m' = bL ps m:=by
 obtain⟨_,hl,_⟩:=kQ pok hn0 hm
 exact sO (N:=(bL ps m).1.length) h1 h2 _ _ _ _ hl (Gj _) (by show _<=m' + ps.length+0;omega)
theorem Bd {xs:List Str}{ps:List Piece}{k:Nat}(pok:b8 xs k ps)(hn0:0<ps.length):((bL ps 400).1.length<=300->bL ps 301=bL ps 400/\bL ps 300=bL ps 400/\bL ps (bL ps 400).1.length=bL ps 400)/\(300<(bL ps 400).1.length->300<(bL ps 301).1.length):=by
 constructor
 ·intro h
  exact⟨kT pok hn0 (by decide) (by omega) (by omega),kT pok hn0 (by decide) (by omega) (by omega),kT pok hn0 (by decide) (by omega) (Gj _)⟩
 ·intro h
  by_cases z:300<(bL ps 301).1.length
  ·exact z
  ·have:=kT (m':=400) pok hn0 (by decide:1<=301) (by omega) (by omega)
   rw [this] at h
   exact absurd h z
inductive fm (P:Program) (w:World) (C:Addr) (vs:List V) (H:Hp) (Q:VK) (_:XK):Prop
 | mk (plv:V) (ps:List Piece) (xs:List Str) (most:Nat) (_:vs=[plv,.int (most:Nat)]) (_:aX H plv (eD ps)) (_:b8 xs 6 ps) (_:(∀x∈xs,dH x)) (_:xs.length<=10) (_:0<ps.length) (_:ps.length<=60) (_:1<=most) (_:most<=400) (_:∀(v:V) (ds:List PyData) (H':Hp),Paired (fun d c=>CD c d) ds (bL ps most).1->aX H' v (.tuple [.tuple ((bL ps most).2.map bW),.tuple ds])->af H H'->Q v H')
inductive qB (vs:List V) (H:Hp) (Q:VK) (_:XK):Prop
 | mk (plv:V) (ps:List Piece) (xs:List Str) (most:Nat) (_:vs=[plv,.int (most:Nat)]) (_:aX H plv (eD ps)) (_:b8 xs 6 ps) (_:(∀x∈xs,dH x)) (_:xs.length<=10) (_:0<ps.length) (_:ps.length<=60) (_:1<=most) (_:most<=400) (_:∀(v:V) (ds:List PyData) (H':Hp),Paired (fun d c=>CD c d) ds (bL ps most).1->aX H' v (.tuple [.tuple ((bL ps most).2.map bW),.tuple ds])->af H H'->Q v H')
inductive kU (cM:Addr) (vs:List V) (H:Hp) (Q:VK) (E:XK):Prop
 | mk (p:Addr) (xs:List V) (m:V) (_:vs=[.ref p,m]) (_:H p=some (.tup xs)) (_:60<xs.length) (_:xs.length<=1000) (_:E (.ref cM) none H)
inductive sP (cM:Addr) (vs:List V) (H:Hp) (Q:VK) (E:XK):Prop
 | mk (plv:V) (ps:List Piece) (xs:List Str) (_:vs=[plv]) (_:aX H plv (eD ps)) (_:b8 xs 6 ps) (_:(∀x∈xs,dH x)) (_:xs.length<=10) (_:0<ps.length) (_:ps.length<=60) (_:(bL ps 301).1.length<=300->∀H',af H H'->Q (.int ((bL ps 301).1.length:Nat)) H') (_:300<(bL ps 301).1.length->∀H',af H H'->E (.ref cM) none H')
inductive sQ (cM:Addr) (vs:List V) (H:Hp) (Q:VK) (E:XK):Prop
 | mk (p:Addr) (xs:List V) (_:vs=[.ref p]) (_:H p=some (.tup xs)) (_:60<xs.length) (_:xs.length<=1000) (_:E (.ref cM) none H)
inductive FJ (plv mv:V) (H:Hp) (Q:VK):Prop
 | led (ps:List Piece) (xs:List Str) (m:Nat) (_:mv=.int (m:Nat)) (_:aX H plv (eD ps)) (_:b8 xs 6 ps) (_:(∀x∈xs,dH x)) (_:xs.length<=10) (_:0<ps.length) (_:ps.length<=60) (_:1<=m) (_:m<=400) (_:∀(v:V) (ds:List PyData) (H':Hp),Paired (fun d c=>CD c d) ds (bL ps m).1->aX H' v (.tuple [.tuple ((bL ps m).2.map bW),.tuple ds])->af H H'->Q v H')
 | need (ps:List Piece) (xs:List Str) (_:mv=.aZ) (_:aX H plv (eD ps)) (_:b8 xs 6 ps) (_:(∀x∈xs,dH x)) (_:xs.length<=10) (_:0<ps.length) (_:ps.length<=60) (_:(bL ps 301).1.length<=300->∀H',af H H'->Q (.int ((bL ps 301).1.length:Nat)) H') (_:300<(bL ps 301).1.length->∀H',af H H'->Q (.str "many") H')
 | many (p:Addr) (xs:List V) (_:plv=.ref p) (_:mv=.aZ\/∃i,mv=.int i) (_:H p=some (.tup xs)) (_:60<xs.length) (_:xs.length<=1000) (_:∀H',af H H'->Q (.str "many") H')
inductive rE (vs:List V) (H:Hp) (Q:VK) (_:XK):Prop
 | mk (plv mv:V) (_:vs=[plv,mv]) (_:FJ plv mv H Q)
inductive wV (vs:List V) (H:Hp) (Q:VK) (_:XK):Prop
 | mk (plv:V) (ps:List Piece) (xs:List Str) (_:vs=[plv]) (_:aX H plv (eD ps)) (_:b8 xs 6 ps) (_:(∀x∈xs,dH x)) (_:xs.length<=10) (_:0<ps.length) (_:ps.length<=60) (_:∀H',af H H'->Q (.bl true) H')
def jO:List Str:=["a", "b", "c", "d", "e", "f", "g", "h", "i", "j"]
theorem zG:∀x∈jO,dH x:=by
 intro x hx
 simp only [jO,Gn,HL,or_false] at hx
 rcases hx with rfl | rfl | rfl | rfl | rfl | rfl | rfl | rfl | rfl | rfl <;> constructor <;> decide +kernel
inductive nF (vs:List V) (H:Hp) (Q:VK) (_:XK):Prop
 | mk (b:Addr) (_:vs=[.ref b]) (_:cH H b) (_:∀(v:V) (ps:List Piece) H',aX H' v (eD ps)->b8 jO 6 ps->0<ps.length->ps.length<=60->cH H' b->Fix b H H'->Q v H')
theorem Be {P:Program}{w:World}{C:Addr}{vs:List V}{H:Hp}{Q:VK}{E E':XK}(h:fm P w C vs H Q E):fm P w C vs H Q E':=by
 cases h;constructor <;> assumption
theorem BJ:("a" : Str)∈jO:=Gx ..
theorem EO:("c" : Str)∈jO:=Gv _ (Gv _ (Gx ..))
def Bf:Str := "abcdefghijk"
theorem C0 {k:Nat}(hk:k<10):∃c,fq Bf.cps.toList (k:Int)=some c/\(⟨#[c]⟩:Str)∈jO:=by
 have h:∀k∈G4 10,(match Bf.cps.toList[k]? with | some c=>decide ((⟨#[c]⟩:Str)∈jO) | none=>false)=true:=by decide +kernel
 have:=h k (HB.mpr hk)
 split at this
 ·rename_i c hc
  exact⟨c,bS hc,of_decide_eq_true this⟩
 ·cases this
def Bg:Str := "abcde"
theorem C1 {k:Nat}(hk:k<5):∃c,fq Bg.cps.toList (k:Int)=some c/\(⟨#[c]⟩:Str)∈jO:=by
 have h:∀k∈G4 5,(match Bg.cps.toList[k]? with | some c=>decide ((⟨#[c]⟩:Str)∈jO) | none=>false)=true:=by decide +kernel
 have:=h k (HB.mpr hk)
 split at this
 ·rename_i c hc
  exact⟨c,bS hc,of_decide_eq_true this⟩
 ·cases this
def iR (n:Nat)(p:Piece):Prop:=(p.1.length<=6/\∀d∈p.1,ft jO d)/\i7 jO n p.2
inductive eE (H:Hp) (lz:Addr) (n k:Nat):Prop
 | mk (vs:List V) (ps:List Piece) (_:H lz=some (.lst vs)) (_:bu H vs (ps.map bW)) (_:ps.length=k) (_:∀p∈ps,iR n p)
theorem eE.put {H:Hp}{lz t:Addr}{n k:Nat}{p:Piece}{vs:List V}{ps:List Piece}(h1:H lz=some (.lst vs))(h2:bu H vs (ps.map bW))(h3:ps.length=k)(h4:∀p∈ps,iR n p)(r:aX H (.ref t) (bW p))(hp:iR n p):eE (upd H lz (.lst (vs++[.ref t]))) lz n (k+1):=by
 have kt:∀c zs,H c=some (.tup zs)->(upd H lz (.lst (vs++[.ref t]))) c=some (.tup zs):=fun c zs e=>by
  rw [ao (fun z=>by rw [z,h1] at e;cases e)];exact e
 refine⟨_,ps++[p],aa,?_,by rw [Gq,h3];rfl,fun q hq=>?_⟩
 ·rw [GF]
  exact (h2.aK kt (aS ps)).app (r.aK kt (eY _))
 ·rcases Gw.mp hq with hq | hq
  ·exact h4 q hq
  ·rw [Gk.mp hq];exact hp
theorem eE.Eh {H H':Hp}{lz t:Addr}{n:Nat}{vs:List V}{ps:List Piece}(h2:bu H vs (ps.map bW))(h3:ps.length=n)(h4:∀p∈ps,iR n p)(ht:H' t=some (.tup vs))(kt:∀c zs,H c=some (.tup zs)->H' c=some (.tup zs)):aX H' (.ref t) (eD ps)/\b8 jO 6 ps :=
 ⟨.tup ht (h2.aK kt (aS ps)),⟨fun p hp=>(h4 p hp).1,fun p hp=>by rw [h3];exact (h4 p hp).2⟩⟩
theorem C2 {H:Hp}{lz t:Addr}{n k:Nat}{p:Piece}{vs:List V}{ps:List Piece}(h1:H lz=some (.lst vs))(h2:bu H vs (ps.map bW))(h3:ps.length=k)(h4:∀p∈ps,iR n p)(r:aX H (.ref t) (bW p))(hp:iR n p) :
  bu (upd H lz (.lst (vs++[.ref t]))) (vs++[.ref t]) ((ps++[p]).map bW)/\(ps++[p]).length=k+1/\∀q∈ps++[p],iR n q:=by
 have kt:∀c zs,H c=some (.tup zs)->(upd H lz (.lst (vs++[.ref t]))) c=some (.tup zs):=fun c zs e=>by
  rw [ao (fun z=>by rw [z,h1] at e;cases e)];exact e
 refine⟨?_,by rw [Gq,h3];rfl,fun q hq=>?_⟩
 ·rw [GF]
  exact (h2.aK kt (aS ps)).app (r.aK kt (eY _))
 ·rcases Gw.mp hq with hq | hq
  ·exact h4 q hq
  ·rw [Gk.mp hq];exact hp
theorem cH.zH {H H':Hp}{b:Addr}(B:cH H b)(s:af H H'):cH H' b:=by
 obtain⟨x,y,hb,r⟩:=B
 exact⟨x,y,s _ _ hb,r⟩
end L2
namespace My
open PySem PySem.Spec PyProof.Rows L2
def top (i:Nat):Stmt:=PySem.Challenge.pw_ledpast_k11_needed.main.body.getD i (.Pass ⟨0,0,0,0⟩)
structure Bl (mg:Str->Option Value):Prop where
 len:mg "len" = none
 zip:mg "zip" = none
 tuple:mg "tuple" = none
 sorted:mg "sorted" = none
 set:mg "set" = none
 dict:mg "dict" = none
 min:mg "min" = none
 max:mg "max" = none
 range:mg "range" = none
 list:mg "list" = none
 int:mg "int" = none
 bool:mg "bool" = none
 isinstance:mg "isinstance" = none
 ValueError:mg "ValueError" = none
abbrev hV:Stmt:=top 10
theorem o9:aR ["thing", "kinds", "wanted"] ["thing", "kinds", "wanted"] (aw hV):=cA
abbrev mR:Stmt:=top 12
theorem xU:aR ["end"] ["end"] (aw mR):=cA
abbrev iw:Stmt:=top 13
theorem qC:aR ["end"] ["end"] (aw iw):=cA
abbrev kW:Stmt:=top 11
theorem gx:aR ["plan", "names", "deeds", "end", "deed"] ["plan"] (aw kW):=cA
abbrev mS:Stmt:=top 18
theorem kX:aR ["number", "stretch", "low", "high"] ["number", "stretch"] (aw mS):=cA
abbrev jw:Stmt:=top 19
theorem gB:aR ["stretch", "number", "low", "high", "top"] ["stretch", "number"] (aw jw):=cA
abbrev jV:Stmt:=top 20
theorem hX:aR ["stretch", "number", "low", "high", "bottom"] ["stretch", "number"] (aw jV):=cA
abbrev mT:Stmt:=top 21
theorem xV:aR ["stretch", "number"] ["stretch", "number"] (aw mT):=cA
abbrev iX:Stmt:=top 22
theorem ix:aR ["stretch", "number", "low", "high"] ["stretch", "number"] (aw iX):=cA
abbrev mU:Stmt:=top 23
theorem xW:aR ["stretch", "word", "number", "side"] ["stretch", "word", "number", "side"] (aw mU):=cA
abbrev kY:Stmt:=top 26
theorem vo:aR ["stretches"] ["stretches"] (aw kY):=cA
abbrev rF:Stmt:=top 27
theorem Bh:aR ["facts", "name"] ["facts", "name"] (aw rF):=cA
abbrev jx:Stmt:=top 28
theorem lR:aR ["facts", "name", "stretch", "stretches"] ["facts", "name", "stretch"] (aw jx):=cA
abbrev rG:Stmt:=top 29
theorem pd:aR ["stretch", "number", "low", "high"] ["stretch", "number"] (aw rG):=cA
abbrev gF:Stmt:=top 30
theorem i5:aR ["stretches", "deed", "word", "name"] ["stretches", "deed"] (aw gF):=cA
abbrev ph:Stmt:=top 31
theorem mV:aR ["facts", "deeds", "stretches", "deed"] ["facts", "deeds"] (aw ph):=cA
abbrev iy:Stmt:=top 32
theorem dD:aR ["facts", "end", "ways", "word", "name", "number", "stretch", "parts"] ["facts", "end"] (aw iy):=cA
abbrev rH:Stmt:=top 33
theorem uY:aR ["facts", "end", "beyond"] ["facts", "end"] (aw rH):=cA
abbrev rJ:Stmt:=top 34
theorem Bi:aR ["plan"] ["plan"] (aw rJ):=cA
abbrev iz:Stmt:=inClass (top 14) 0
theorem qD:aR ["self", "first"] ["self", "first"] (aw iz):=cA
abbrev iA:Stmt:=inClass (top 14) 1
theorem qE:aR ["self", "thing"] ["self", "thing"] (aw iA):=cA
abbrev mW:Stmt:=top 15
theorem hZ:aR ["plan", "found", "waiting", "at", "way"] ["plan"] (aw mW):=cA
abbrev rK:Stmt:=top 16
theorem kZ:aR ["plan", "found", "at", "way"] ["plan"] (aw rK):=cA
abbrev lg:Stmt:=top 38
theorem ox:aR ["lead", "tops", "places", "most", "piece"] ["lead", "tops", "places", "most"] (aw lg):=cA
abbrev pA:Stmt:=top 39
theorem zI:aR ["end", "ways"] ["end", "ways"] (aw pA):=cA
abbrev lh:Stmt:=top 40
theorem bO:aR ["plan", "most", "tops", "copies", "pieces", "piece", "facts", "deeds", "end", "ahead", "ways"] ["plan", "most"] (aw lh):=cA
abbrev pB:Stmt:=top 41
theorem mX:aR ["plan", "many"] ["plan"] (aw pB):=cA
abbrev mY:Stmt:=top 43
theorem lj:aR ["script", "k", "cell"] ["script", "k"] (aw mY):=cA
abbrev lq:Stmt:=top 44
theorem oy:aR ["bag", "many", "found"] ["bag", "many"] (aw lq):=cA
abbrev jW:Stmt:=top 45
theorem dU:aR ["bag", "letters", "many", "base", "at", "names", "k", "name"] ["bag"] (aw jW):=cA
abbrev jy:Stmt:=top 46
theorem sZ:aR ["bag"] ["bag"] (aw jy):=cA
abbrev lr:Stmt:=top 47
theorem jX:aR ["bag", "names", "word", "name"] ["bag", "names"] (aw lr):=cA
abbrev mZ:Stmt:=top 48
theorem i9:aR ["bag", "names", "count", "way", "word", "name"] ["bag", "names", "count"] (aw mZ):=cA
abbrev lu:Stmt:=top 49
theorem fE:aR ["bag", "count", "most", "names", "pieces", "k", "many", "end"] ["bag", "count", "most"] (aw lu):=cA
abbrev h9:Stmt:=top 50
theorem eB:aR ["plan", "names", "deeds", "end", "deed"] ["plan"] (aw h9):=cA
abbrev lB:Stmt:=top 54
theorem eU:aR ["stretch", "word", "number", "side", "low", "high"] ["stretch", "word", "number", "side"] (aw lB):=cA
abbrev lC:Stmt:=top 55
theorem jY:aR ["facts", "name", "stretch", "more", "other"] ["facts", "name", "stretch"] (aw lC):=cA
abbrev jA:Stmt:=top 56
theorem cu:aR ["facts", "deeds", "deed", "stretch", "low", "high"] ["facts", "deeds"] (aw jA):=cA
abbrev jZ:Stmt:=top 57
theorem ia:aR ["facts", "end", "found", "side", "part"] ["facts", "end"] (aw jZ):=cA
abbrev lF:Stmt:=top 58
theorem vp:aR ["facts"] ["facts"] (aw lF):=cA
abbrev lG:Stmt:=top 51
theorem vq:aR ["end"] ["end"] (aw lG):=cA
abbrev iY:Stmt:=top 52
theorem e6:aR ["plan", "found", "at", "there"] ["plan"] (aw iY):=cA
abbrev j0:Stmt:=top 53
theorem ib:aR ["plan", "found", "piece", "there"] ["plan"] (aw j0):=cA
abbrev iB:Stmt:=top 60
theorem fG:aR ["facts", "table", "name", "stretch"] ["facts"] (aw iB):=cA
abbrev j1:Stmt:=top 61
theorem jB:aR ["piece", "numbers", "deeds", "end"] ["piece", "numbers"] (aw j1):=cA
abbrev jC:Stmt:=top 59
theorem bK:aR ["plan", "most", "headed", "found", "pieces", "begun", "name", "waiting", "numbers", "at", "piece", "facts", "copy", "deeds", "end"] ["plan", "most"] (aw jC):=cA
abbrev j2:Stmt:=top 62
theorem eC:aR ["plan", "most", "kinds", "found", "e"] ["plan", "most"] (aw j2):=cA
abbrev iZ:Stmt:=top 63
theorem eh:aR ["bag", "many", "pieces", "k", "name", "there"] ["bag"] (aw iZ):=cA
abbrev jD:Stmt:=top 64
theorem dZ:aR ["bag", "ahead", "pieces", "k", "name", "there"] ["bag"] (aw jD):=cA
abbrev fT:Stmt:=top 65
theorem eF:aR ["plan", "due", "found", "least"] ["plan"] (aw fT):=cA
abbrev nG:Stmt:=top 66
theorem qF:aR ["script", "bag", "great"] ["script"] (aw nG):=cA
section
variable {P:Program}{w:World}{K:Gh}{mg:Str->Option Value}{base:Heap}
theorem pC {f:Addr} {fd:FuncData} (F:b0 K "parts_of_kind" "parts_of_kind" hV f fd) (Z:Bl mg)  : bA P w K mg base bX 1 f fd ["thing", "kinds", "wanted"] (qW K):=by
 refine F.ok (k:=0) o9 (fun vs H Q E h=>?_) (fun cdv A outer s H vs Q E hr h=>?_)
 ·obtain⟨t,s,v0,xs,ks,w,rfl,_⟩:=h
  rfl
 ·obtain⟨t,s,v0,xs,ks,w,rfl,ht,hs,hl,q⟩:=h
  refine⟨_,(ah (aF (fJ ["part", "kind"] ["wanted"] [2] rfl (yU rfl Z.zip (ay (ky nj (pv 0) (m8 ai) m7) (pv 1))) rfl (by decide +kernel) (by decide +kernel) (by decide +kernel) ⟨⟨rfl,.inl rfl,rfl⟩,True.intro⟩ (fun _ _ _ _=>(qQ (K:=K) (n:=2) rfl (cZ (n:=2) rfl (bc (aN (i:=0) (show ((["part", "kind"]:List Str)++(["wanted"]:List Str)).Nodup by decide +kernel) (hf:=GQ rfl)) (bc (aN (i:=1) (show ((["part", "kind"]:List Str)++(["wanted"]:List Str)).Nodup by decide +kernel) (hf:=GQ rfl)) cC))))) (fun _ _ _ _=>(qP (aH cx (pv 1) (pv 2) (aP _)))) (fun _ _ _ _=>(pv 0))))),?_⟩
  refine⟨_,rfl,_,rfl,t,_,rfl,av.of ht,fun hw=>?_,fun _ p np=>?_⟩
  ·exfalso
   obtain⟨h1,_⟩:=hw
   simp [HT.cm] at h1
  ·have ec:ij (v0::xs) (some 1) none=xs:=by simp [ij,HT.cm]
   rw [ec]
   have sp:=af.new (o:=.tup xs) np
   refine⟨_,rfl,p,s,rfl,⟨_,av.of aa⟩,⟨_,hs.same sp⟩,fun acc na=>?_⟩
   refine yV (K:=K) (a:=p) (b:=s) (xs:=xs) (ys:=ks.map V.str) (fun i zs Gg H'=>∃(c1 c2:Option V),Gg=[c1,c2,some (.str w)]/\zs=jJ w xs ks i/\H' acc=some (.lst zs)/\H' p=some (.tup xs)/\af H H') ?_ ?_ ?_ ?_
   ·exact⟨none,none,rfl,rfl,aa,af.new na _ _ aa,sp.trans (af.new na)⟩
   ·rintro i zs Gg H4 hi ⟨c1,c2,rfl,rfl,ha,hp4,s4⟩
    exact⟨av.of hp4,hs.same s4,ha,d7 (by have:=yX (w:=w) (xs:=xs) (ks:=ks) (i:=i);omega)⟩
   ·rintro i x y zs Gg H4 u hx hy hu ⟨c1,c2,rfl,rfl,ha,hp4,s4⟩
    obtain⟨k,rfl,hk⟩:∃k,y=V.str k/\ks[i]?=some k:=by
     rw [Gz] at hy
     cases e:ks[i]? with
     | none=>rw [e] at hy;cases hy
     | some k=>rw [e] at hy;exact⟨k,(Gy.inj hy).symm,rfl⟩
    have su:=af.new (o:=.tup [x,.str k]) hu
    refine⟨u,_,rfl,av.of aa,rfl,_,_,rfl,_,_,rfl,rfl,?_⟩
    refine⟨_,rfl,_,rfl,rfl,_,rfl,?_⟩
    have hn:=xx (w:=w) hx hk
    by_cases hkw:k=w
    ·rw [if_pos hkw] at hn
     refine bY (decide_eq_true (congrArg V.str hkw)) ?_
     refine⟨_,rfl,su _ _ ha,_,_,rfl,hn.symm,aa,?_,?_⟩
     ·rw [ao (bw hp4 ha (by intro z;cases z))]
      exact su _ _ hp4
     ·exact (s4.trans su).put (sp.free na)
    ·rw [if_neg hkw,Hm] at hn
     refine bh (decide_eq_false fun z=>hkw (V.str.inj z)) ?_
     exact⟨_,_,rfl,hn.symm,su _ _ ha,su _ _ hp4,s4.trans su⟩
   ·rintro zs Gg H4 ⟨c1,c2,rfl,rfl,ha,hp4,s4⟩
    rw [yW] at ha
    exact q acc H4 ha s4
theorem xX {f:Addr} {fd:FuncData} (F:b0 K "ways_on" "ways_on" mR f fd) (Z:Bl mg) {aE s0 s1 s2 s3:Addr} (GE:ug K mg aE s0 s1 s2 s3) (O_parts_of_kind:Own P w K mg base "parts_of_kind" 1 ["thing", "kinds", "wanted"] (qW K)):bA P w K mg base bX 3 f fd ["end"] kh:=by
 refine F.ok (k:=2) xU (fun vs H Q E h=>?_) (fun cdv A outer s H vs Q E hr h=>?_)
 ·obtain⟨ea,e,rfl,_⟩:=h
  rfl
 ·obtain⟨ea,e,rfl,he,q⟩:=h
  refine⟨_,(ah (aF (bE bF rfl Z.tuple cb (au (aI O_parts_of_kind hr (gc (pv 0) (qV GE.tab rfl (aG bf (pv 0) ai) (fun _ _=>rfl)) ba)))))),?_⟩
  obtain⟨xs,ev,hl,hp⟩:=yY e
  rw [ev] at he
  obtain⟨s,hs,ks⟩:=GE.at_ e
  refine⟨_,rfl,_,rfl,ea,_,0,_,rfl,rfl,av.of he,cJ,_,s,rfl,hs,ea,s,_,xs,kE e, "piece",rfl,he,.inr ks,hl,fun l H1 hl1 s1=>?_⟩
  rw [hp] at hl1
  exact⟨l,_,rfl,.inl ⟨aO.of hl1,fun t ht=>q t _ aa (s1.trans (af.new ht))⟩⟩
theorem qG {f:Addr} {fd:FuncData} (F:b0 K "without_ways" "without_ways" iw f fd) (Z:Bl mg) (O_ways_on:Own P w K mg base "ways_on" 3 ["end"] kh):bA P w K mg base bX 4 f fd ["end"] sy:=by
 refine F.ok (k:=3) qC (fun vs H Q E h=>?_) (fun cdv A outer s H vs Q E hr h=>?_)
 ·obtain⟨ea,e,rfl,_⟩:=h
  rfl
 ·obtain⟨ea,e,rfl,he,q⟩:=h
  refine⟨_,(ah (aF (ky nj (pv 0) m7 (m8 (aY fI (aT aU rfl Z.len bV (au (pv 0))) (aT aU rfl Z.len bV (au (aI O_ways_on hr (au (pv 0)))))))))),?_⟩
  refine⟨_,rfl,_,rfl,ea,_,rfl,.inr (av.of he),_,rfl,ea,e,rfl,he,fun t H1 ht s1=>⟨t,_,rfl,.inr (av.of ht),_,_,rfl,rfl,?_⟩⟩
  have he1:=s1 _ _ he
  have el:((eJ e).length:Int)-(((aV e).map fun k=>V.int (k:Nat)).length:Int)=((gZ e).length:Nat):=by cases e <;> rfl
  have ec:ij (eJ e) none (some ((gZ e).length:Nat))=gZ e:=by
   unfold ij
   rw [HT.tT,HT.vR]
   cases e <;> rfl
  refine⟨_,congrArg V.int el,ea,_,rfl,av.of he1,fun hw=>?_,fun _ p hp=>?_⟩
  ·unfold ij at ec
   rw [hw.1,hw.2] at ec
   refine q ea H1 ?_ s1
   rw [he1,<-ec]
   simp
  ·rw [ec]
   exact q p _ aa (s1.trans (af.new hp))
theorem vt {f:Addr} {fd:FuncData} (F:b0 K "names_of" "names_of" kW f fd) (Z:Bl mg) {aD d0 d1 d2 d3 d4:Addr} (GD:tI K mg aD d0 d1 d2 d3 d4) {aE s0 s1 s2 s3:Addr} (GE:ug K mg aE s0 s1 s2 s3) (O_parts_of_kind:Own P w K mg base "parts_of_kind" 1 ["thing", "kinds", "wanted"] (qW K)):bA P w K mg base bX 3 f fd ["plan"] si:=by
 refine F.ok (k:=2) gx (fun vs H Q E h=>?_) (fun cdv A outer s H vs Q E hr h=>?_)
 ·obtain⟨plv,ps,xs,m,rfl,_⟩:=h
  rfl
 ·obtain⟨plv,ps,xs,m,rfl,hp,pok,hx64,hal,q⟩:=h
  refine⟨_,(ae (aJ (i:=1) gx.nd (bZ bQ))
   (ae (cW PassesOwn.never rfl (er (pv 0)) (cZ rfl (bc (aN (i:=2) gx.nd) (bc (aN (i:=3) gx.nd) cC)))
   (ae (cW PassesOwn.never rfl (er (pv 2)) (aN (i:=4) gx.nd)
   (ah (cf (df PySem.F.plainAttrs_list PySem.F.slot_list_extend PySem.F.type_list_extend rY (pv 1) (au (aI O_parts_of_kind hr (gc (pv 4) (qV GD.tab rfl (aG bf (pv 4) ai) (fun _ _=>rfl)) ba)))))))
   (ah (cf (df PySem.F.plainAttrs_list PySem.F.slot_list_extend PySem.F.type_list_extend rY (pv 1) (au (aI O_parts_of_kind hr (gc (pv 3) (qV GE.tab rfl (aG bf (pv 3) ai) (fun _ _=>rfl)) ba))))))))
   (ah (aF (bE bF rfl Z.tuple cb (au (aT (sR rfl) rfl Z.sorted fb (au (bE (ze rfl) rfl Z.set zc (au (pv 1))))))))))),?_⟩
  obtain⟨pp,vs,rfl,e1,r⟩:=aX.bP hp
  have hl:=r.len
  refine⟨(by show 0<=sizeLine;decide),fun nm nn=>?_⟩
  have s0:=af.new (o:=.lst []) nn
  have big:∀(i:Nat) (ys:List Str),ys.length<=4000->(ys.map V.str).length<=sizeLine:=fun i ys h=>by rw [Gi];exact Gr h (by decide)
  refine⟨_,rfl,pp,rfl,⟨_,av.of (s0 _ _ e1)⟩,fB (K:=K) (a:=pp) (xs:=vs) (fun i Gf H'=>∃(u1 u2 u3:Option V),Gf=[some (.ref pp),some (.ref nm),u1,u2,u3]/\H' nm=some (.lst ((bp (ps.take i)).map V.str))/\af H H') ?_ ?_ ?_ ?_⟩
  ·exact⟨_,_,_,rfl,aa,s0⟩
  ·rintro i Gf H1 hi ⟨u1,u2,u3,rfl,h1,s1⟩
   exact av.of (s1 _ _ e1)
  ·rintro i x Gf H1 hi ⟨u1,u2,u3,rfl,h1,s1⟩
   have hlt:i<ps.length:=by
    have:=(GH.mp hi).1
    rw [hl,Gi] at this
    exact this
   have hpi:ps[i]?=some ps[i]:=by simp [hlt]
   generalize ps[i]=pe at hpi
   obtain⟨ds,e⟩:=pe
   have hnext:=jL (f:=pNames) hpi
   have hsz:(bp (ps.take (i+1))).length<=4000:=Gr (lO (f:=pNames) (i+1)) hal
   have hsz':(bp (ps.take i)).length+((ds.flatMap cw).length+(gm e).length)<=4000:=by
    have z:=congrArg Hb hnext
    unfold bp at hsz ⊢
    rw [z] at hsz
    simp only [Gq,pNames] at hsz
    omega
   obtain⟨p',xs',pc,da,ea,ws,ep,e1',el',hx',e2,e3,r3,e4⟩:=fh hp hpi
   cases ep
   rw [e1] at e1'
   cases e1'
   rw [hi] at hx'
   cases hx'
   refine⟨pc,_,rfl,av.of (s1 _ _ e2),rfl,_,_,rfl,_,_,rfl,rfl,?_⟩
   refine⟨_,rfl,da,rfl,⟨_,av.of (s1 _ _ e3)⟩,fB (K:=K) (a:=da) (xs:=ws) (fun j Gf H'=>∃(u3:Option V),Gf=[some (.ref pp),some (.ref nm),some (.ref da),some (.ref ea),u3]/\H' nm=some (.lst ((bp (ps.take i)++(ds.take j).flatMap cw).map V.str))/\af H H') ?_ ?_ ?_ ?_⟩
   ·exact⟨_,rfl,by simpa using h1,s1⟩
   ·rintro j Gf H2 hj ⟨u3',rfl,h2,s2⟩
    exact av.of (s2 _ _ e3)
   ·rintro j y Gf H2 hj ⟨u3',rfl,h2,s2⟩
    have hjl:j<ds.length:=by
     have:=(GH.mp hj).1
     rw [r3.len,Gi] at this
     exact this
    have hdj:ds[j]?=some ds[j]:=by simp [hjl]
    generalize ds[j]=dd at hdj
    obtain⟨v,hv,rd⟩:=r3.get (i:=j) (d:=dB dd) (by rw [Gz,hdj];rfl)
    rw [hj] at hv
    cases hv
    obtain⟨dp,rfl,hdp⟩:=gH rd
    have hdp2:=s2 _ _ hdp
    obtain⟨zs,ez,hzl,hpk⟩:=xF dd
    rw [ez] at hdp2
    obtain⟨s,hs,ks⟩:=GD.at_ dd
    have hnj:=jL (f:=cw) hdj
    have hsj:((ds.take (j+1)).flatMap cw).length<=(ds.flatMap cw).length:=lO (f:=cw) (j+1)
    refine bJ ?_
    refine⟨_,rfl,.inl ⟨rfl,_,aO.of h2⟩,_,rfl,_,rfl,dp,_,0,_,rfl,rfl,av.of hdp2,cJ,_,s,rfl,hs,dp,s,_,zs,kD dd, "name",rfl,hdp2,.inr ks,hzl,fun l H3 hl3 s3=>?_⟩
    rw [hpk] at hl3
    have h3:=s3 _ _ h2
    refine⟨nm,l,_,_,rfl,rfl,h3,hl3,?_,?_⟩
    ·rw [Gi,Gi,Gq]
     rw [hnj,Gq] at hsj
     exact Gr (show _<=4000 by omega) (by decide)
    ·refine⟨_,rfl,?_,(s2.trans s3).put nn⟩
     rw [aa,hnj,<-GY];simp only [GF]
   ·rintro Gf H2 ⟨u3',rfl,h2,s2⟩
    rw [show ws.length=ds.length by rw [r3.len,Gi],GR] at h2
    have e42:=s2 _ _ e4
    obtain⟨zs,ez,hzl,hpk⟩:=xG e
    rw [ez] at e42
    obtain⟨s,hs,ks⟩:=GE.at_ e
    refine⟨_,rfl,.inl ⟨rfl,_,aO.of h2⟩,_,rfl,_,rfl,ea,_,0,_,rfl,rfl,av.of e42,cJ,_,s,rfl,hs,ea,s,_,zs,kE e, "name",rfl,e42,.inr ks,hzl,fun l H3 hl3 s3=>?_⟩
    rw [hpk] at hl3
    have h3:=s3 _ _ h2
    refine⟨nm,l,_,_,rfl,rfl,h3,hl3,?_,?_⟩
    ·rw [Gi,Gi,Gq]
     exact Gr (show _<=4000 by omega) (by decide)
    ·refine⟨_,_,_,rfl,?_,(s2.trans s3).put nn⟩
     rw [aa,<-GF]
     unfold bp at hnext ⊢
     rw [hnext]
     simp only [pNames,GY]
  ·rintro Gf H1 ⟨u1,u2,u3,rfl,h1,s1⟩
   rw [show vs.length=ps.length by rw [hl,Gi],GR] at h1
   have hk:aO K H1 nm (((bp ps).map (Sum.inr:Str->Key)).map kV):=by rw [Ct];exact aO.of h1
   refine⟨_,rfl,nm,(bp ps).map Sum.inr,rfl,hk,(by rw [Gi];show _+1<4096;omega),fun sa hsa=>?_⟩
   have hf:=oU pok
   refine⟨sa,LS.cI (bp ps),rfl,(by rw [aa,xH]),(by omega),fun l ss hperm hsort hn=>?_⟩
   have s2:=af.new (o:=cK P w sa (LS.cI ((bp ps).map (Sum.inr:Str->Key)))) hsa
   refine⟨l,_,rfl,.inl ⟨aO.of aa,fun t ht=>?_⟩⟩
   exact q t ss _ aa hperm hsort (by rw [hperm.length_eq];omega) (((s1.trans s2).trans (af.new hn)).trans (af.new ht))
theorem xY {f:Addr} {fd:FuncData} (F:b0 K "lies_in" "lies_in" mS f fd) (Z:Bl mg)  : bA P w K mg base bX 1 f fd ["number", "stretch"] (wC K):=by
 refine F.ok (k:=0) kX (fun vs H Q E h=>?_) (fun cdv A outer s H vs Q E hr h=>?_)
 ·obtain⟨n,q,lo,hi,rfl,_⟩:=h
  rfl
 ·obtain⟨n,q,lo,hi,rfl,hq,k⟩:=h
  refine⟨_,(ae (dG (pv 1) (cZ rfl (bc (aN (i:=2) kX.nd) (bc (aN (i:=3) kX.nd) cC))))
   (ah (aF (yh (tD (pG (gd (pv 2))) (j7 (gG tF (pv 2) (pv 0) (aP _)))) (j7 (tD (pG (gd (pv 3))) (j7 (gG tF (pv 0) (pv 3) (aP _))))))))),?_⟩
  refine⟨_,rfl,q,_,rfl,hq,rfl,_,_,rfl,_,_,rfl,rfl,?_⟩
  cases lo with
  | none =>
   refine⟨_,rfl,_,rfl,bT ⟨_,rfl,bT ?_⟩⟩
   cases hi with
   | none=>exact⟨_,rfl,_,rfl,bT k⟩
   | some b =>
    refine⟨_,rfl,_,rfl,bN ⟨_,rfl,_,rfl,_,_,rfl,rfl,?_⟩⟩
    simpa only [eV,Iy] using k
  | some a =>
   refine⟨_,rfl,_,rfl,bN ⟨_,rfl,_,rfl,_,_,rfl,rfl,_,rfl,?_⟩⟩
   cases hx:decide (a<=n) with
   | false=>exact bN (by have k':=k;simp only [eV,hx,Bool.false_and] at k';exact k')
   | true =>
    refine bT ?_
    cases hi with
    | none=>exact⟨_,rfl,_,rfl,bT (by have k':=k;simp only [eV,hx,Iy] at k';exact k')⟩
    | some b =>
     refine⟨_,rfl,_,rfl,bN ⟨_,rfl,_,rfl,_,_,rfl,rfl,?_⟩⟩
     have k':=k
     simp only [eV,hx,Iy] at k'
     exact k'
theorem tf {f:Addr} {fd:FuncData} (F:b0 K "part_below" "part_below" jw f fd) (Z:Bl mg)  : bA P w K mg base bX 1 f fd ["stretch", "number"] (mF K gi):=by
 refine F.ok (k:=0) gB (fun vs H Q E h=>?_) (fun cdv A outer s H vs Q E hr h=>?_)
 ·obtain⟨p,n,lo,hi,rfl,_⟩:=h
  rfl
 ·obtain⟨p,n,lo,hi,rfl,hp,q⟩:=h
  refine⟨_,(ae (dG (pv 0) (cZ rfl (bc (aN (i:=2) gB.nd) (bc (aN (i:=3) gB.nd) cC))))
   (ae (aJ (i:=4) gB.nd (fe (d6 (gd (pv 3))) (aY fI (pv 1) ai) (aT (yn rfl) rfl Z.min DA (ay (pv 3) (aY fI (pv 1) ai)))))
   (ae (bg (PW.pt (iI (d6 (fz (pv 2))) (ie (aH iD (pv 2) (pv 4) (aP _)))))
   (ah (aF cE))
   aM)
   (ah (aF (aB (ay (pv 2) (pv 4)))))))),?_⟩
  refine⟨_,rfl,p,_,rfl,hp,rfl,_,_,rfl,_,_,rfl,rfl,?_⟩
  cases hi with
  | none =>
   refine⟨_,rfl,_,rfl,bT ⟨_,rfl,_,_,rfl,rfl,?_⟩⟩
   cases lo with
   | none =>
    refine⟨_,rfl,_,rfl,bN (bN ⟨_,rfl,_,rfl,ln2,fun l hl=>?_⟩)⟩
    exact q _ _ ⟨l,rfl,aa⟩ (af.new hl)
   | some i =>
    refine⟨_,rfl,_,rfl,bT ⟨_,rfl,_,rfl,_,_,rfl,rfl,_,rfl,?_⟩⟩
    refine dh (fun hc=>?_) (fun hc=>?_)
    ·have hlt:iS none n<i:=of_decide_eq_true hc
     exact q _ _ (by simp only [gi];rw [if_pos hlt];rfl) (af.refl H)
    ·have hlt:¬iS none n<i:=fun z=>hc (decide_eq_true z)
     refine⟨_,rfl,_,rfl,ln2,fun l hl=>?_⟩
     exact q _ _ (by simp only [gi];rw [if_neg hlt];exact⟨l,rfl,aa⟩) (af.new hl)
  | some j =>
   refine⟨_,rfl,_,rfl,bN ⟨_,rfl,_,rfl,_,_,rfl,rfl,_,_,rfl,?_⟩⟩
   cases lo with
   | none =>
    refine⟨_,rfl,_,rfl,bN (bN ⟨_,rfl,_,rfl,ln2,fun l hl=>?_⟩)⟩
    exact q _ _ ⟨l,rfl,aa⟩ (af.new hl)
   | some i =>
    refine⟨_,rfl,_,rfl,bT ⟨_,rfl,_,rfl,_,_,rfl,rfl,_,rfl,?_⟩⟩
    refine dh (fun hc=>?_) (fun hc=>?_)
    ·have hlt:iS (some j) n<i:=of_decide_eq_true hc
     exact q _ _ (by simp only [gi];rw [if_pos hlt];rfl) (af.refl H)
    ·have hlt:¬iS (some j) n<i:=fun z=>hc (decide_eq_true z)
     refine⟨_,rfl,_,rfl,ln2,fun l hl=>?_⟩
     exact q _ _ (by simp only [gi];rw [if_neg hlt];exact⟨l,rfl,aa⟩) (af.new hl)
theorem uZ {f:Addr} {fd:FuncData} (F:b0 K "part_from" "part_from" jV f fd) (Z:Bl mg)  : bA P w K mg base bX 1 f fd ["stretch", "number"] (mF K iF):=by
 refine F.ok (k:=0) hX (fun vs H Q E h=>?_) (fun cdv A outer s H vs Q E hr h=>?_)
 ·obtain⟨p,n,lo,hi,rfl,_⟩:=h
  rfl
 ·obtain⟨p,n,lo,hi,rfl,hp,q⟩:=h
  refine⟨_,(ae (dG (pv 0) (cZ rfl (bc (aN (i:=2) hX.nd) (bc (aN (i:=3) hX.nd) cC))))
   (ae (aJ (i:=4) hX.nd (fe (d6 (gd (pv 2))) (pv 1) (aT (ym rfl) rfl Z.max DB (ay (pv 2) (pv 1)))))
   (ae (bg (PW.pt (iI (d6 (fz (pv 3))) (ie (aH iD (pv 4) (pv 3) (aP _)))))
   (ah (aF cE))
   aM)
   (ah (aF (aB (ay (pv 4) (pv 3)))))))),?_⟩
  refine⟨_,rfl,p,_,rfl,hp,rfl,_,_,rfl,_,_,rfl,rfl,?_⟩
  cases lo with
  | none =>
   refine⟨_,rfl,_,rfl,bT ⟨_,rfl,?_⟩⟩
   cases hi with
   | none =>
    refine⟨_,rfl,_,rfl,bN (bN ⟨_,rfl,_,rfl,ln2,fun l hl=>?_⟩)⟩
    exact q _ _ ⟨l,rfl,aa⟩ (af.new hl)
   | some j =>
    refine⟨_,rfl,_,rfl,bT ⟨_,rfl,_,rfl,_,_,rfl,rfl,_,rfl,?_⟩⟩
    refine dh (fun hc=>?_) (fun hc=>?_)
    ·have hlt:j<iT none n:=of_decide_eq_true hc
     exact q _ _ (by simp only [iF];rw [if_pos hlt];rfl) (af.refl H)
    ·have hlt:¬j<iT none n:=fun z=>hc (decide_eq_true z)
     refine⟨_,rfl,_,rfl,ln2,fun l hl=>?_⟩
     exact q _ _ (by simp only [iF];rw [if_neg hlt];exact⟨l,rfl,aa⟩) (af.new hl)
  | some i =>
   refine⟨_,rfl,_,rfl,bN ⟨_,rfl,_,rfl,_,_,rfl,?_⟩⟩
   cases hi with
   | none =>
    refine⟨_,rfl,_,rfl,bN (bN ⟨_,rfl,_,rfl,ln2,fun l hl=>?_⟩)⟩
    exact q _ _ ⟨l,rfl,aa⟩ (af.new hl)
   | some j =>
    refine⟨_,rfl,_,rfl,bT ⟨_,rfl,_,rfl,_,_,rfl,rfl,_,rfl,?_⟩⟩
    refine dh (fun hc=>?_) (fun hc=>?_)
    ·have hlt:j<iT (some i) n:=of_decide_eq_true hc
     exact q _ _ (by simp only [iF];rw [if_pos hlt];rfl) (af.refl H)
    ·have hlt:¬j<iT (some i) n:=fun z=>hc (decide_eq_true z)
     refine⟨_,rfl,_,rfl,ln2,fun l hl=>?_⟩
     exact q _ _ (by simp only [iF];rw [if_neg hlt];exact⟨l,rfl,aa⟩) (af.new hl)
theorem xZ {f:Addr} {fd:FuncData} (F:b0 K "part_at" "part_at" mT f fd) (Z:Bl mg) (O_lies_in:Own P w K mg base "lies_in" 1 ["number", "stretch"] (wC K)):bA P w K mg base bX 2 f fd ["stretch", "number"] (mF K lM):=by
 refine F.ok (k:=1) xV (fun vs H Q E h=>?_) (fun cdv A outer s H vs Q E hr h=>?_)
 ·obtain⟨p,n,lo,hi,rfl,_⟩:=h
  rfl
 ·obtain⟨p,n,lo,hi,rfl,hp,q⟩:=h
  refine⟨_,(ae (bg (gf (aI O_lies_in hr (ay (pv 1) (pv 0))))
   (ah (aF (aB (ay (pv 1) (pv 1)))))
   aM)
   (ah (aF cE))),?_⟩
  refine⟨_,rfl,_,rfl,n,p,lo,hi,rfl,hp,_,rfl,?_⟩
  refine dh (fun hc=>?_) (fun hc=>?_)
  ·refine⟨_,rfl,_,rfl,ln2,fun l hl=>?_⟩
   exact q _ _ (by simp only [lM,if_pos hc];exact⟨l,rfl,aa⟩) (af.new hl)
  ·exact q _ _ (by simp only [lM,if_neg hc];rfl) (af.refl H)
theorem rL {f:Addr} {fd:FuncData} (F:b0 K "part_beside" "part_beside" iX f fd) (Z:Bl mg)  : bA P w K mg base bX 1 f fd ["stretch", "number"] (mF K jn):=by
 refine F.ok (k:=0) ix (fun vs H Q E h=>?_) (fun cdv A outer s H vs Q E hr h=>?_)
 ·obtain⟨p,n,lo,hi,rfl,_⟩:=h
  rfl
 ·obtain⟨p,n,lo,hi,rfl,hp,q⟩:=h
  refine⟨_,(ae (dG (pv 0) (cZ rfl (bc (aN (i:=2) ix.nd) (bc (aN (i:=3) ix.nd) cC))))
   (ae (bg (PW.pt (iI (aH cx (pv 2) (pv 1) (aP _)) (ie (aH cx (pv 3) (pv 1) (aP _)))))
   (ah (aF cE))
   aM)
   (ae (bg (aH cx (pv 2) (pv 1) (aP _))
   (ah (aF (aB (ay (aY bR (pv 1) ai) (pv 3)))))
   aM)
   (ae (bg (aH cx (pv 3) (pv 1) (aP _))
   (ah (aF (aB (ay (pv 2) (aY fI (pv 1) ai)))))
   aM)
   (ah (aF (aB (ay (pv 2) (pv 3))))))))),?_⟩
  refine⟨_,rfl,p,_,rfl,hp,rfl,_,_,rfl,_,_,rfl,rfl,?_⟩
  refine⟨_,rfl,_,rfl,iO,_,rfl,?_⟩
  rw [jI]
  refine dh (fun hc=>?_) (fun hc=>?_)
  ·have h1:lo=some n:=of_decide_eq_true hc
   refine⟨_,rfl,_,rfl,iO,_,rfl,?_⟩
   rw [jI]
   refine dh (fun hd=>?_) (fun hd=>?_)
   ·have h2:hi=some n:=of_decide_eq_true hd
    exact q _ _ (by simp only [jn,if_pos h1,if_pos h2];rfl) (af.refl H)
   ·have h2:¬hi=some n:=fun z=>hd (decide_eq_true z)
    refine⟨_,rfl,_,rfl,iO,_,rfl,?_⟩
    rw [jI,hc]
    refine bT ⟨_,rfl,_,_,rfl,rfl,_,rfl,ln2,fun l hl=>?_⟩
    exact q _ _ (by simp only [jn,if_pos h1,if_neg h2];exact⟨l,rfl,aa⟩) (af.new hl)
  ·have h1:¬lo=some n:=fun z=>hc (decide_eq_true z)
   refine bN ?_
   refine⟨_,rfl,_,rfl,iO,_,rfl,?_⟩
   rw [jI,show decide (lo=some n)=false from decide_eq_false h1]
   refine bN ?_
   refine⟨_,rfl,_,rfl,iO,_,rfl,?_⟩
   rw [jI]
   refine dh (fun hd=>?_) (fun hd=>?_)
   ·have h2:hi=some n:=of_decide_eq_true hd
    refine⟨_,rfl,_,rfl,_,_,rfl,rfl,ln2,fun l hl=>?_⟩
    exact q _ _ (by simp only [jn,if_neg h1,if_pos h2];exact⟨l,rfl,aa⟩) (af.new hl)
   ·have h2:¬hi=some n:=fun z=>hd (decide_eq_true z)
    refine⟨_,rfl,_,rfl,ln2,fun l hl=>?_⟩
    exact q _ _ (by simp only [jn,if_neg h1,if_neg h2];exact⟨l,rfl,aa⟩) (af.new hl)
theorem x8 {f:Addr} {fd:FuncData} (F:b0 K "part_of" "part_of" mU f fd) (Z:Bl mg) (O_part_below:Own P w K mg base "part_below" 1 ["stretch", "number"] (mF K gi)) (O_part_from:Own P w K mg base "part_from" 1 ["stretch", "number"] (mF K iF)) (O_part_at:Own P w K mg base "part_at" 2 ["stretch", "number"] (mF K lM)) (O_part_beside:Own P w K mg base "part_beside" 1 ["stretch", "number"] (mF K jn)):bA P w K mg base bX 3 f fd ["stretch", "word", "number", "side"] (wF K):=by
 refine F.ok (k:=2) xW (fun vs H Q E h=>?_) (fun cdv A outer s H vs Q E hr h=>?_)
 ·obtain⟨p,w,n,side,lo,hi,rfl,_⟩:=h
  rfl
 ·obtain⟨p,w,n,side,lo,hi,rfl,hp,q⟩:=h
  refine⟨_,(ae (bg (aH cx (pv 1) ba (aP _))
   (ah (aF (fe (gf (pv 3)) (aI O_part_below hr (ay (pv 0) (pv 2))) (aI O_part_from hr (ay (pv 0) (pv 2))))))
   aM)
   (ah (aF (fe (gf (pv 3)) (aI O_part_at hr (ay (pv 0) (pv 2))) (aI O_part_beside hr (ay (pv 0) (pv 2))))))),?_⟩
  refine⟨_,rfl,rfl,_,rfl,?_⟩
  by_cases hw:w = "less"
  ·subst hw
   rw [yS]
   refine bT ⟨_,rfl,_,rfl,?_⟩
   cases side with
   | true=>exact bT ⟨_,rfl,_,rfl,p,n,lo,hi,rfl,hp,fun v H1 r s1=>q v H1 (by simp only [dP,kF,if_true];exact r) s1⟩
   | false=>exact bN ⟨_,rfl,_,rfl,p,n,lo,hi,rfl,hp,fun v H1 r s1=>q v H1 (by simp only [dP,kF,if_true,Hh,if_false];exact r) s1⟩
  ·have e:decide (V.str w=V.str "less")=false:=decide_eq_false fun z=>hw (V.str.inj z)
   rw [e]
   refine bN ⟨_,rfl,_,rfl,?_⟩
   cases side with
   | true=>exact bT ⟨_,rfl,_,rfl,p,n,lo,hi,rfl,hp,fun v H1 r s1=>q v H1 (by simp only [dP,uc,if_neg hw,if_true];exact r) s1⟩
   | false=>exact bN ⟨_,rfl,_,rfl,p,n,lo,hi,rfl,hp,fun v H1 r s1=>q v H1 (by simp only [dP,uc,if_neg hw,Hh,if_false];exact r) s1⟩
theorem vv {f:Addr} {fd:FuncData} (F:b0 K "facts_of" "facts_of" kY f fd) (Z:Bl mg) {aA:Addr} (GA:iU K mg aA)  : bA P w K mg base bX 1 f fd ["stretches"] (my aA):=by
 refine F.ok (k:=0) vo (fun vs H Q E h=>?_) (fun cdv A outer s H vs Q E hr h=>?_)
 ·obtain⟨d,kvs,ks,T,rfl,_⟩:=h
  rfl
 ·obtain⟨d,kvs,ks,T,rfl,hd,tb,hl,q⟩:=h
  refine⟨_,(ah (aF (bE bF rfl Z.tuple cb (au (fJ ["name"] ["stretches"] [0] rfl (fA (aT (jo rfl) rfl Z.sorted fb (au (pv 0)))) rfl (by decide +kernel) (by decide +kernel) (by decide +kernel) ⟨⟨rfl,.inl rfl,rfl⟩,True.intro⟩ (fun _ _ _ _=>(aN (i:=0) (show ((["name"]:List Str)++(["stretches"]:List Str)).Nodup by decide +kernel) (hf:=GQ rfl))) (fun _ _ _ _=>(qP (aH (DX (aA:=aA) hr.units GA) (nh (dM hr) (pv 1) (pv 0) (fun _ _=>rfl)) (cG (v:=.ref aA) rfl GA.sf rfl) (aP _)))) (fun _ _ _ _=>(aB (ay (pv 0) (nh (dM hr) (pv 1) (pv 0) (fun _ _=>rfl)))))))))),?_⟩
  refine⟨_,rfl,d,kvs,ks,rfl,hd,tb.keys,hl,fun l ss hp hs hn=>?_⟩
  have srt:jq ss:=⟨mx hs,hp.nodup_iff.mpr tb.nd⟩
  have hl1:(upd H l (.lst (ss.map V.str))) l=some (.lst (ss.map V.str)):=aa
  have s1:af H (upd H l (.lst (ss.map V.str))):=af.new hn
  have hssl:ss.length<64:=by rw [hp.length_eq];exact hl
  generalize (upd H l (.lst (ss.map V.str)))=H1 at hl1 s1
  refine⟨l,rfl,⟨_,aO.of hl1⟩,fun acc na=>?_⟩
  refine m9 (K:=K) (a:=l) (xs:=ss.map V.str) (fun i ys Gg H'=>∃c:Option V,Gg=[c,some (.ref d)]/\bu H' ys (((ss.take i).filter fun x=>!decide (T x=cQ)).map (dF T))/\H' acc=some (.lst ys)/\af H1 H') ?_ ?_ ?_ ?_
  ·exact⟨none,rfl,.nil,aa,af.new na⟩
  ·rintro i ys Gg H2 hi ⟨c,rfl,r,ha,s2⟩
   refine⟨aO.of (s2 _ _ hl1),ha,?_⟩
   have h1:=r.len
   rw [Gi] at h1
   have h2:=Hy (fun x=>!decide (T x=cQ)) (ss.take i)
   have h3:=List.length_take_le i ss
   have h4:(ss.take i).length<=ss.length:=by rw [G9];omega
   exact bC (by omega)
  ·rintro i x ys Gg H2 hi ⟨c,rfl,r,ha,s2⟩
   obtain⟨y,hy,rfl⟩:∃y,ss[i]?=some y/\x=V.str y:=by
    rw [Gz] at hi
    cases e:ss[i]? with
    | none=>rw [e] at hi;cases hi
    | some k=>rw [e] at hi;exact⟨k,rfl,(Gy.inj hi).symm⟩
   have hym:y∈ks:=hp.mem_iff.mp (GB hy)
   have tk:ss.take (i+1)=ss.take i++[y]:=by rw [GN,hy];rfl
   obtain⟨v,ev,sv,_⟩:∃v,b5 kvs (Sum.inr y)=some v/\SV aA H v (T y)/\y∈ks:=by
    rcases tb.val y with ⟨_,_,c⟩ | h
    ·exact absurd hym c
    ·exact h
   have sv2:SV aA H2 v (T y):=sv.aK fun p xs e=>s2 _ _ (s1 _ _ e)
   have hd2:H2 d=some (.dK kvs):=s2 _ _ (s1 _ _ hd)
   have dg:eu H2 d (.str y) (some v):=by
    have:=eu.k (k:=Sum.inr y) hd2
    rw [ev] at this
    exact this
   refine bJ ?_
   refine⟨_,rfl,_,rfl,d,v,rfl,dg,T y,sv2,rfl,_,rfl,?_⟩
   by_cases hT:T y=cQ
   ·refine bh (by rw [decide_eq_true hT];rfl) ?_
    refine⟨_,rfl,?_,ha,s2⟩
    rw [tk,Iv,HZ (by rw [decide_eq_true hT];decide),List.filter_nil,Hm]
    exact r
   ·refine bY (by rw [decide_eq_false hT];rfl) ?_
    refine⟨_,rfl,_,rfl,_,rfl,d,v,rfl,dg,ln2,fun t nt=>?_⟩
    have s3:=af.new (o:=.tup [.str y,v]) nt
    have ht:(upd H2 t (.tup [.str y,v])) t=some (.tup [.str y,v]):=aa
    generalize (upd H2 t (.tup [.str y,v]))=H3 at s3 ht
    have sh:SH H3 v (T y):=by
     rcases sv2 with h | ⟨_,h⟩
     ·exact h.aK fun p xs e=>s3 _ _ e
     ·exact absurd h hT
    have ha3:=s3 _ _ ha
    refine⟨ha3,_,rfl,?_,aa,(s2.trans s3).put na⟩
    rw [tk,Iv,IC (by rw [decide_eq_false hT];rfl),List.filter_nil,GF]
    refine bu.app ((r.same s3 (iG T _)).put ha3 (iG T _)) ?_
    refine aX.aK (H:=H3) (fun p zs e=>by rw [ao (bw e ha3 (by intro z;cases z))];exact e) (.tup ht (.cons (.str y) (.cons sh.rd .nil))) ?_
    have:=iG T [y]
    simpa [b4] using this
  ·rintro ys Gg H2 ⟨c,rfl,r,ha,s2⟩
   rw [Gi,GR] at r
   refine⟨acc,ys,rfl,.inl ⟨aO.of ha,fun t nt=>?_⟩⟩
   refine q _ _ ⟨t,ys,_,rfl,aa,srt.filter _,fun x=>?_,r.same (af.new nt) (iG T _)⟩ ((s1.trans s2).trans (af.new nt))
   rw [Hj]
   constructor
   ·rintro⟨_,h⟩ e
    rw [decide_eq_true e] at h
    cases h
   ·intro h
    refine⟨?_,by rw [decide_eq_false h];rfl⟩
    rcases tb.val x with ⟨_,a,_⟩ | ⟨_,_,_,a⟩
    ·exact absurd a h
    ·exact hp.mem_iff.mpr a
theorem Bj {f:Addr} {fd:FuncData} (F:b0 K "known" "known" rF f fd) (Z:Bl mg) {aA:Addr} (GA:iU K mg aA)  : bA P w K mg base bX 1 f fd ["facts", "name"] (wB aA):=by
 refine F.ok (k:=0) Bh (fun vs H Q E h=>?_) (fun cdv A outer s H vs Q E hr h=>?_)
 ·obtain⟨fv,x,T,rfl,_⟩:=h
  rfl
 ·obtain⟨fv,x,T,rfl,hf,q⟩:=h
  refine⟨_,(ah (aF (fK (dM hr) (bE (gX rfl) rfl Z.dict qT (au (pv 0))) (pv 1) (cG (v:=.ref aA) rfl GA.sf rfl) ⟨rfl,rfl,rfl,rfl⟩))),?_⟩
  obtain⟨fp,xs,ss,rfl,hfp,srt,hmem,rf⟩:=hf
  obtain⟨kvs,l1,l2,l3,tb⟩:=FV.tb aA srt hmem rf
  refine⟨_,rfl,fp,xs,kvs,rfl,hfp,l1,l2,l3,fun d nd=>?_⟩
  obtain⟨v,ev,sv⟩:=tb.getD x
  exact⟨d,rfl,.inl ⟨kvs,.inl aa⟩,_,rfl,_,v,eu.k (k:=Sum.inr x) aa,ev,q v _ (sv.aK fun p zs e=>af.new nd _ _ e) (af.new nd)⟩
theorem tj {f:Addr} {fd:FuncData} (F:b0 K "with_known" "with_known" jx f fd) (Z:Bl mg) {aA:Addr} (GA:iU K mg aA) (O_facts_of:Own P w K mg base "facts_of" 1 ["stretches"] (my aA)):bA P w K mg base bX 2 f fd ["facts", "name", "stretch"] (oi aA):=by
 refine F.ok (k:=1) lR (fun vs H Q E h=>?_) (fun cdv A outer s H vs Q E hr h=>?_)
 ·obtain⟨fv,sv,x,T,s,rfl,_⟩:=h
  rfl
 ·obtain⟨fv,sv,x,T,s,rfl,hf,hs,cX,q⟩:=h
  refine⟨_,(ae (aJ (i:=3) lR.nd (bE (gX rfl) rfl Z.dict qT (au (pv 0))))
   (ae (fC (dM hr) (pv 3) (pv 1) (pv 2) rfl)
   (ah (aF (aI O_facts_of hr (au (pv 3))))))),?_⟩
  obtain⟨fp,xs,ss,rfl,hfp,srt,hmem,rf⟩:=hf
  obtain⟨kvs,l1,l2,l3,tb⟩:=FV.tb aA srt hmem rf
  have hssl:ss.length<=62:=cX ss (fun x hx=>(hmem x).mp hx) srt.nd
  have kl:kvs.length=ss.length:=by have:=congrArg Hb tb.keys;simpa using this
  refine⟨_,rfl,fp,xs,kvs,rfl,hfp,l1,l2,l3,fun d nd=>?_⟩
  have k1:∀p zs,H p=some (.tup zs)->(upd H d (.dK kvs)) p=some (.tup zs):=fun p zs e=>af.new nd _ _ e
  refine⟨_,rfl,_,rfl,_,rfl,d,_,rfl,gW.k (k:=Sum.inr x) aa (bC (by omega)),?_⟩
  obtain⟨ks2,t2,k2,m2⟩:=(tb.aK k1).put x (hs.aK k1)
  have hd1:(upd H d (.dK kvs)) d=some (.dK kvs):=aa
  refine⟨_,rfl,d,_,ks2,_,rfl,aa,t2.aK (fun p zs e=>by rw [ao (bw e hd1 (by intro z;cases z))];exact e),(by omega),fun v H2 f2 s2=>q v H2 f2 (((af.new nd).put nd).trans s2)⟩
theorem Bk {f:Addr} {fd:FuncData} (F:b0 K "moved" "moved" rG f fd) (Z:Bl mg)  : bA P w K mg base bX 1 f fd ["stretch", "number"] (wz K):=by
 refine F.ok (k:=0) pd (fun vs H Q E h=>?_) (fun cdv A outer s H vs Q E hr h=>?_)
 ·obtain⟨p,s,n,rfl,_⟩:=h
  rfl
 ·obtain⟨p,s,n,rfl,hp,q⟩:=h
  refine⟨_,(ae (dG (pv 0) (cZ rfl (bc (aN (i:=2) pd.nd) (bc (aN (i:=3) pd.nd) cC))))
   (ah (aF (aB (ay (fe (d6 (gd (pv 2))) cE (aY bR (pv 2) (pv 1))) (fe (d6 (gd (pv 3))) cE (aY bR (pv 3) (pv 1)))))))),?_⟩
  obtain⟨lo,hi⟩:=s
  refine⟨_,rfl,p,_,rfl,hp,rfl,_,_,rfl,_,_,rfl,rfl,?_⟩
  cases lo with
  | none =>
   refine⟨_,rfl,_,rfl,bT ?_⟩
   cases hi with
   | none=>exact⟨_,rfl,_,rfl,bT ⟨ln2,fun t nt=>q _ _ ⟨t,rfl,aa⟩ (af.new nt)⟩⟩
   | some b=>exact⟨_,rfl,_,rfl,bN ⟨_,rfl,_,rfl,_,_,rfl,rfl,ln2,fun t nt=>q _ _ ⟨t,rfl,aa⟩ (af.new nt)⟩⟩
  | some a =>
   refine⟨_,rfl,_,rfl,bN ⟨_,rfl,_,rfl,_,_,rfl,rfl,?_⟩⟩
   cases hi with
   | none=>exact⟨_,rfl,_,rfl,bT ⟨ln2,fun t nt=>q _ _ ⟨t,rfl,aa⟩ (af.new nt)⟩⟩
   | some b=>exact⟨_,rfl,_,rfl,bN ⟨_,rfl,_,rfl,_,_,rfl,rfl,ln2,fun t nt=>q _ _ ⟨t,rfl,aa⟩ (af.new nt)⟩⟩
theorem nK {f:Addr} {fd:FuncData} (F:b0 K "stretch_behind" "stretch_behind" gF f fd) (Z:Bl mg) {aA:Addr} (GA:iU K mg aA) (O_moved:Own P w K mg base "moved" 1 ["stretch", "number"] (wz K)):bA P w K mg base bX 2 f fd ["stretches", "deed"] (qd aA):=by
  refine F.ok (k:=1) i5 (fun vs H Q E h=>?_) (fun cdv A outer s H vs Q E hr h=>?_)
  . obtain⟨d,w,kvs,ks,T,dd,rfl,_⟩:=h
    rfl
  . obtain⟨d,w,kvs,ks,T,dd,rfl,hd,tb,hw,q⟩:=h
    refine⟨_,(ae (dQ (Dd (i:=2) (j:=3) rfl i5.nd rfl rfl (by decide) rfl rfl (ay (aG bf (pv 1) ai) (aG bf (pv 1) ai)) rfl))
      (ae (bg (aH cx (pv 2) ba (aP _))
      (ah (aF (aB (ay (aG bf (pv 1) ai) (aG bf (pv 1) ai)))))
      aM)
      (ae (bg (aH cx (pv 2) ba (aP _))
      (ah (aF (fK (dM hr) (pv 0) (aG bf (pv 1) ai) (cG (v:=.ref aA) rfl GA.sf rfl) ⟨rfl,rfl,rfl,rfl⟩)))
      aM)
      (ae (bg (aH cx (pv 2) ba (aP _))
      (ah (aF (aI O_moved hr (ay (fK (dM hr) (pv 0) (pv 3) (cG (v:=.ref aA) rfl GA.sf rfl) ⟨rfl,rfl,rfl,rfl⟩) (aG bf (pv 1) ai)))))
      aM)
      (ae (bg (aH cx (pv 2) ba (aP _))
      (ah (aF (cG (v:=.ref aA) rfl GA.sf rfl)))
      aM)
      (ah (aF (fK (dM hr) (pv 0) (pv 3) (cG (v:=.ref aA) rfl GA.sf rfl) ⟨rfl,rfl,rfl,rfl⟩)))))))),?_⟩
    cases dd
    case put x n =>
      refine⟨fun σ' H'=>σ' = [some (.ref d),some (.ref w),some (.str "put"),some (.str x)]/\H=H',⟨_,rfl,w,_,0,_,rfl,rfl,av.of hw,cJ,_,rfl,w,_,1,_,rfl,rfl,av.of hw,dA,_,_,rfl,rfl,rfl⟩,?_⟩
      rintro σ' H' ⟨rfl,rfl⟩
      refine⟨_,rfl,rfl,_,rfl,?_⟩
      refine bY (show decide (V.str "put" = V.str "put")=true by decide +kernel) ?_
      exact⟨_,rfl,w,_,2,_,rfl,rfl,av.of hw,at2,_,rfl,w,_,2,_,rfl,rfl,av.of hw,at2,ln2,fun t nt=>q _ _ (.inl ⟨t,rfl,aa⟩) (af.new nt)⟩
    case copy x y =>
      refine⟨fun σ' H'=>σ' = [some (.ref d),some (.ref w),some (.str "copy"),some (.str x)]/\H=H',⟨_,rfl,w,_,0,_,rfl,rfl,av.of hw,cJ,_,rfl,w,_,1,_,rfl,rfl,av.of hw,dA,_,_,rfl,rfl,rfl⟩,?_⟩
      rintro σ' H' ⟨rfl,rfl⟩
      refine⟨_,rfl,rfl,_,rfl,?_⟩
      refine bh (show decide (V.str "copy" = V.str "put")=false by decide +kernel) ?_
      refine⟨_,rfl,rfl,_,rfl,?_⟩
      refine bY (show decide (V.str "copy" = V.str "copy")=true by decide +kernel) ?_
      obtain⟨v,ev,sv⟩:=tb.getD y
      exact⟨_,rfl,d,rfl,.inl ⟨kvs,.inl hd⟩,_,rfl,w,_,2,_,rfl,rfl,av.of hw,at2,_,v,eu.k (k:=Sum.inr y) hd,ev,q _ _ sv (af.refl H)⟩
    case add x n =>
      refine⟨fun σ' H'=>σ' = [some (.ref d),some (.ref w),some (.str "add"),some (.str x)]/\H=H',⟨_,rfl,w,_,0,_,rfl,rfl,av.of hw,cJ,_,rfl,w,_,1,_,rfl,rfl,av.of hw,dA,_,_,rfl,rfl,rfl⟩,?_⟩
      rintro σ' H' ⟨rfl,rfl⟩
      refine⟨_,rfl,rfl,_,rfl,?_⟩
      refine bh (show decide (V.str "add" = V.str "put")=false by decide +kernel) ?_
      refine⟨_,rfl,rfl,_,rfl,?_⟩
      refine bh (show decide (V.str "add" = V.str "copy")=false by decide +kernel) ?_
      refine⟨_,rfl,rfl,_,rfl,?_⟩
      refine bY (show decide (V.str "add" = V.str "add")=true by decide +kernel) ?_
      obtain⟨v,ev,sv⟩:=tb.getD x
      obtain⟨qa,rfl,hqa⟩:=sv.sq GA
      exact⟨_,rfl,d,rfl,.inl ⟨kvs,.inl hd⟩,_,rfl,_,_,eu.k (k:=Sum.inr x) hd,ev,_,rfl,w,_,2,_,rfl,rfl,av.of hw,at2,qa,T x,n,rfl,hqa,fun v H' sh s1=>q _ _ (.inl sh) s1⟩
    case read x =>
      refine⟨fun σ' H'=>σ' = [some (.ref d),some (.ref w),some (.str "read"),some (.str x)]/\H=H',⟨_,rfl,w,_,0,_,rfl,rfl,av.of hw,cJ,_,rfl,w,_,1,_,rfl,rfl,av.of hw,dA,_,_,rfl,rfl,rfl⟩,?_⟩
      rintro σ' H' ⟨rfl,rfl⟩
      refine⟨_,rfl,rfl,_,rfl,?_⟩
      refine bh (show decide (V.str "read" = V.str "put")=false by decide +kernel) ?_
      refine⟨_,rfl,rfl,_,rfl,?_⟩
      refine bh (show decide (V.str "read" = V.str "copy")=false by decide +kernel) ?_
      refine⟨_,rfl,rfl,_,rfl,?_⟩
      refine bh (show decide (V.str "read" = V.str "add")=false by decide +kernel) ?_
      refine⟨_,rfl,rfl,_,rfl,?_⟩
      refine bY (show decide (V.str "read" = V.str "read")=true by decide +kernel) ?_
      exact q _ _ (.inr ⟨rfl,rfl⟩) (af.refl H)
    case tell x =>
      refine⟨fun σ' H'=>σ' = [some (.ref d),some (.ref w),some (.str "tell"),some (.str x)]/\H=H',⟨_,rfl,w,_,0,_,rfl,rfl,av.of hw,cJ,_,rfl,w,_,1,_,rfl,rfl,av.of hw,dA,_,_,rfl,rfl,rfl⟩,?_⟩
      rintro σ' H' ⟨rfl,rfl⟩
      refine⟨_,rfl,rfl,_,rfl,?_⟩
      refine bh (show decide (V.str "tell" = V.str "put")=false by decide +kernel) ?_
      refine⟨_,rfl,rfl,_,rfl,?_⟩
      refine bh (show decide (V.str "tell" = V.str "copy")=false by decide +kernel) ?_
      refine⟨_,rfl,rfl,_,rfl,?_⟩
      refine bh (show decide (V.str "tell" = V.str "add")=false by decide +kernel) ?_
      refine⟨_,rfl,rfl,_,rfl,?_⟩
      refine bh (show decide (V.str "tell" = V.str "read")=false by decide +kernel) ?_
      obtain⟨v,ev,sv⟩:=tb.getD x
      exact⟨_,rfl,d,rfl,.inl ⟨kvs,.inl hd⟩,_,rfl,_,v,eu.k (k:=Sum.inr x) hd,ev,q _ _ sv (af.refl H)⟩
theorem zJ {f:Addr} {fd:FuncData} (F:b0 K "behind" "behind" ph f fd) (Z:Bl mg) {aA:Addr} (GA:iU K mg aA) (O_stretch_behind:Own P w K mg base "stretch_behind" 2 ["stretches", "deed"] (qd aA)) (O_facts_of:Own P w K mg base "facts_of" 1 ["stretches"] (my aA)):bA P w K mg base bX 3 f fd ["facts", "deeds"] ux:=by
 refine F.ok (k:=2) mV (fun vs H Q E h=>?_) (fun cdv A outer s H vs Q E hr h=>?_)
 ·obtain⟨fv,p,ws,ds,T,m,rfl,_⟩:=h
  rfl
 ·obtain⟨fv,p,ws,ds,T,m,rfl,hf,hp,r,cX,hm,q⟩:=h
  refine⟨_,(ae (aJ (i:=2) mV.nd (bE (gX rfl) rfl Z.dict qT (au (pv 0))))
   (ae (cW PassesOwn.never rfl (er (pv 1)) (aN (i:=3) mV.nd)
   (ah (fC (dM hr) (pv 2) (aG bf (pv 3) ai) (aI O_stretch_behind hr (ay (pv 2) (pv 3))) rfl)))
   (ah (aF (aI O_facts_of hr (au (pv 2))))))),?_⟩
  obtain⟨fp,xs,ss,rfl,hfp,srt,hmem,rf⟩:=hf
  obtain⟨kvs,l1,l2,l3,tb⟩:=FV.tb aA srt hmem rf
  have hssl:ss.length<=m:=cX ss (fun x hx=>(hmem x).mp hx) srt.nd
  refine⟨_,rfl,fp,xs,kvs,rfl,hfp,l1,l2,l3,fun d nd=>?_⟩
  have tb1:Tb aA (upd H d (.dK kvs)) kvs ss T:=tb.aK fun p xs e=>af.new nd _ _ e
  refine⟨_,rfl,p,rfl,⟨_,av.of (af.new nd _ _ hp)⟩,fB (K:=K) (a:=p) (xs:=ws) (fun i Gf H'=>∃(c:Option V) (kvs':List (Key×V)) (ks':List Str),Gf=[some (.ref fp),some (.ref p),some (.ref d),c]/\H' d=some (.dK kvs')/\Tb aA H' kvs' ks' (bD T (ds.take i))/\ks'.length<=m+i/\af H H') ?_ ?_ ?_ ?_⟩
  ·exact⟨none,kvs,ss,rfl,aa,tb1,hssl,af.new nd⟩
  ·rintro i Gf H1 hi ⟨c,kvs1,ks1,rfl,h1,t1,k1,s1⟩
   exact av.of (s1 _ _ hp)
  ·rintro i x Gf H1 hi ⟨c,kvs1,ks1,rfl,h1,t1,k1,s1⟩
   have hil:i<ds.length:=by
    have:=(GH.mp hi).1
    rw [r.len,Gi] at this
    exact this
   have hdi:ds[i]?=some ds[i]:=by simp [hil]
   generalize ds[i]=dd at hdi
   obtain⟨v,hv,rd⟩:=r.get (i:=i) (d:=dB dd) (by rw [Gz,hdi];rfl)
   rw [hi] at hv
   cases hv
   obtain⟨dp,rfl,hdp⟩:=gH rd
   have tk:bD T (ds.take (i+1))=xK (bD T (ds.take i)) dd:=by
    unfold bD
    rw [GN,hdi,Option.toList_some,HY]
    rfl
   refine bJ ?_
   refine⟨_,rfl,_,rfl,d,dp,kvs1,ks1,_,dd,rfl,h1,t1,s1 _ _ hdp,fun v H2 sv s2=>?_⟩
   have h2:=s2 _ _ h1
   have kl:kvs1.length=ks1.length:=by have:=congrArg Hb t1.keys;simpa using this
   refine⟨_,rfl,_,rfl,dp,_,1,_,rfl,rfl,av.of (s2 _ _ (s1 _ _ hdp)),ue dd,d,_,rfl,gW.k (k:=Sum.inr (fi dd)) h2 (bC (by omega)),?_⟩
   obtain⟨ks2,t2,k2,_⟩:=(t1.aK fun p xs e=>s2 _ _ e).put (fi dd) sv
   refine⟨_,_,ks2,rfl,aa,?_,by omega,(s1.trans s2).put nd⟩
   rw [tk]
   exact t2.aK fun p xs e=>by rw [ao (bw e h2 (by intro z;cases z))];exact e
  ·rintro Gf H1 ⟨c,kvs1,ks1,rfl,h1,t1,k1,s1⟩
   have hwl:ws.length=ds.length:=by rw [r.len,Gi]
   rw [hwl,GR] at t1
   refine⟨_,rfl,d,kvs1,ks1,_,rfl,h1,t1,(by omega),fun v H2 f2 s2=>q v H2 f2 (s1.trans s2)⟩
theorem qH {f:Addr} {fd:FuncData} (F:b0 K "known_beyond" "known_beyond" iy f fd) (Z:Bl mg) {aA:Addr} (GA:iU K mg aA) (O_ways_on:Own P w K mg base "ways_on" 3 ["end"] kh) (O_known:Own P w K mg base "known" 1 ["facts", "name"] (wB aA)) (O_part_of:Own P w K mg base "part_of" 3 ["stretch", "word", "number", "side"] (wF K)) (O_with_known:Own P w K mg base "with_known" 2 ["facts", "name", "stretch"] (oi aA)):bA P w K mg base bX 4 f fd ["facts", "end"] (uD aA):=by
  refine F.ok (k:=3) dD (fun vs H Q E h=>?_) (fun cdv A outer s H vs Q E hr h=>?_)
  . obtain⟨fv,ea,T,e,rfl,_⟩:=h
    rfl
  . obtain⟨fv,ea,T,e,rfl,hf,he,cX,q⟩:=h
    refine⟨_,(ae (aJ (i:=2) dD.nd (aI O_ways_on hr (au (pv 1))))
      (ae (bg (aH gy (aT aU rfl Z.len bV (au (pv 2))) ai (aP _))
      (ah (aF (bE bF rfl Z.tuple cb (au (fJ ["way"] ["facts"] [0] rfl (er (pv 2)) rfl (by decide +kernel) (by decide +kernel) (by decide +kernel) ⟨⟨rfl,.inl rfl,rfl⟩,True.intro⟩ (fun _ _ _ _=>(aN (i:=0) (show ((["way"]:List Str)++(["facts"]:List Str)).Nodup by decide +kernel) (hf:=GQ rfl))) (fun _ _ _ _=>eX) (fun _ _ _ _=>(pv 1)))))))
      aM)
      (ae (dQ (dG (aB (gc (aG bf (pv 1) ai) (aG bf (pv 1) ai) (aG bf (pv 1) ai))) (cZ rfl (bc (aN (i:=3) dD.nd) (bc (aN (i:=4) dD.nd) (bc (aN (i:=5) dD.nd) cC))))))
      (ae (aJ (i:=6) dD.nd (aI O_known hr (ay (pv 0) (pv 4))))
      (ae (il (i:=7) ["side"] ["stretch", "word", "number"] [6,3,5] rfl dD.nd rfl rfl rfl (er (aB (ay fc fc))) rfl (by decide +kernel) (by decide +kernel) (by decide +kernel) ⟨⟨rfl,.inl rfl,rfl⟩,⟨⟨rfl,.inl rfl,rfl⟩,⟨⟨rfl,.inl rfl,rfl⟩,True.intro⟩⟩⟩ (fun _ _ _ _=>(aN (i:=0) (show ((["side"]:List Str)++(["stretch", "word", "number"]:List Str)).Nodup by decide +kernel) (hf:=GQ rfl))) (fun _ _ _ _=>eX) (fun _ _ _ _=>(aI O_part_of hr (uV (pv 1) (pv 2) (pv 3) (pv 0)))))
      (ah (aF (bE bF rfl Z.tuple cb (au (fJ ["part"] ["facts", "name"] [0,4] rfl (fA (pv 7)) rfl (by decide +kernel) (by decide +kernel) (by decide +kernel) ⟨⟨rfl,.inl rfl,rfl⟩,⟨⟨rfl,.inl rfl,rfl⟩,True.intro⟩⟩ (fun _ _ _ _=>(aN (i:=0) (show ((["part"]:List Str)++(["facts", "name"]:List Str)).Nodup by decide +kernel) (hf:=GQ rfl))) (fun _ _ _ _=>eX) (fun _ _ _ _=>(fe (d6 (gd (pv 0))) cE (aI O_with_known hr (gc (pv 1) (pv 2) (pv 0))))))))))))))),?_⟩
    refine⟨_,rfl,ea,e,rfl,he,fun wt H1 hw s1=>?_⟩
    have he1:=s1 _ _ he
    have hf1:=hf.same s1
    refine⟨_,rfl,wt,_,rfl,.inr (av.of hw),_,_,rfl,rfl,_,rfl,?_⟩
    by_cases hl:(aV e).length<2
    . refine bY (decide_eq_true (by rw [Gi];omega)) ?_
      refine⟨_,rfl,wt,rfl,⟨_,av.of hw⟩,fun acc na=>?_⟩
      refine pQ (K:=K) (a:=wt) (xs:=(aV e).map fun k=>V.int (k:Nat)) (fun i zs Gg H'=>∃c:Option V,Gg=[c,some fv]/\zs=Hu i fv/\H' acc=some (.lst zs)/\af H1 H') ?_ ?_ ?_ ?_
      . exact⟨none,rfl,rfl,aa,af.new na⟩
      . rintro i zs Gg H2 hi ⟨c,rfl,rfl,ha,s2⟩
        refine⟨av.of (s2 _ _ hw),ha,?_⟩
        rw [HR]
        rw [Gi] at hi
        exact bC (by omega)
      . rintro i x zs Gg H2 hi ⟨c,rfl,rfl,ha,s2⟩
        refine bJ ?_
        refine jR ?_
        refine bT ?_
        refine⟨_,rfl,ha,_,rfl,?_,aa,s2.put na⟩
        rw [<-List.replicate_succ']
      . rintro zs Gg H2 ⟨c,rfl,rfl,ha,s2⟩
        rw [Gi] at ha
        refine⟨acc,_,rfl,.inl ⟨aO.of ha,fun t nt=>?_⟩⟩
        refine q t _ _ aa ?_ ((s1.trans s2).trans (af.new nt))
        rw [CC hl]
        exact wH (hf1.same (s2.trans (af.new nt))) _
    . refine bh (decide_eq_false (by rw [Gi];omega)) ?_
      cases e with
      | stop=>exact absurd (by show 0<2;omega) hl
      | go p=>exact absurd (by show 1<2;omega) hl
      | cF b x n p r =>
        refine⟨fun σ' H'=>σ' = [some fv,some (.ref ea),some (.ref wt),some (.str (wT b)),some (.str x),some (.int n),none,none]/\af H1 H',?_,?_⟩
        . refine⟨_,rfl,ea,_,0,_,rfl,rfl,av.of he1,cJ,_,rfl,ea,_,1,_,rfl,rfl,av.of he1,dA,_,rfl,ea,_,2,_,rfl,rfl,av.of he1,at2,vX,fun tt htt=>?_⟩
          exact⟨tt,_,rfl,av.of aa,rfl,_,_,rfl,_,_,rfl,_,_,rfl,rfl,rfl,af.new htt⟩
        rintro σ' H2 ⟨rfl,s2⟩
        refine⟨_,rfl,_,rfl,fv,x,T,rfl,hf1.same s2,fun sv H3 hsv s3=>?_⟩
        obtain⟨sp,rfl,hsp⟩:=hsv.sq GA
        have s13:=s2.trans s3
        refine⟨ln2,fun st hst=>⟨st,rfl,⟨_,av.of aa⟩,fun acc na=>?_⟩⟩
        have s4:=af.new (o:=.tup [.bl true,.bl false]) hst
        have hst4:(upd H3 st (.tup [.bl true,.bl false])) st=some (.tup [.bl true,.bl false]):=aa
        generalize (upd H3 st (.tup [.bl true,.bl false]))=H4 at s4 hst4 na
        refine pQ (K:=K) (a:=st) (xs:=[.bl true,.bl false]) (fun i zs Gg H'=>∃c:Option V,Gg=[c,some (.ref sp),some (.str (wT b)),some (.int n)]/\om H' zs ([fw T b x n true,fw T b x n false].take i)/\H' acc=some (.lst zs)/\af H4 H') ?_ ?_ ?_ ?_
        . exact⟨none,rfl,.nil,aa,af.new na⟩
        . rintro i zs Gg H5 hi ⟨c,rfl,rv,ha,s5⟩
          refine⟨av.of (s5 _ _ hst4),ha,?_⟩
          have h1:=Paired.length rv
          rw [G9] at h1
          exact bC (by rw [h1];exact Gr (Nat.min_le_right _ _) (by show 2<=1000;decide))
        . rintro i y zs Gg H5 hi ⟨c,rfl,rv,ha,s5⟩
          obtain⟨side,rfl,hsd⟩:∃side:Bool,y=.bl side/\[fw T b x n true,fw T b x n false][i]?=some (fw T b x n side):=by
            match i,hi with
            | 0,hi=>cases hi;exact⟨true,rfl,rfl⟩
            | 1,hi=>cases hi;exact⟨false,rfl,rfl⟩
            | i+2,hi=>simp at hi
          refine bJ ?_
          refine jR ?_
          refine bT ?_
          refine⟨_,rfl,_,rfl,_,rfl,_,rfl,sp,wT b,n,side,_,_,rfl,hsp.same (s4.trans s5),fun v H6 r6 s6=>?_⟩
          have ha6:=s6 _ _ ha
          refine⟨ha6,_,rfl,?_,aa,(s5.trans s6).put na⟩
          rw [GN,hsd]
          exact d8 ((rv.same s6).put ha6) (.cons (RV.put r6 ha6) .nil)
        . rintro zs Gg H5 ⟨c,rfl,rv,ha,s5⟩
          have s15:=s13.trans (s4.trans s5)
          have rv:om H5 zs [fw T b x n true,fw T b x n false]:=rv
          have rvl:zs.length=2:=Paired.length rv
          refine⟨_,rfl,acc,rfl,⟨_,aO.of ha⟩,fun ac2 na2=>?_⟩
          refine m9 (K:=K) (a:=acc) (xs:=zs) (fun i us Gg H'=>∃c:Option V,Gg=[c,some fv,some (.str x)]/\lQ H' us ((hG T (.cF b x n p r)).take i)/\H' ac2=some (.lst us)/\af H5 H') ?_ ?_ ?_ ?_
          . exact⟨none,rfl,.nil,aa,af.new na2⟩
          . rintro i us Gg H6 hi ⟨c,rfl,bv,ha2,s6⟩
            refine⟨aO.of (s6 _ _ ha),ha2,?_⟩
            have h1:=Paired.length bv
            rw [G9] at h1
            exact bC (by rw [h1];exact Gr (Nat.min_le_right _ _) (by show 2<=1000;decide))
          . rintro i y us Gg H6 hi ⟨c,rfl,bv,ha2,s6⟩
            obtain⟨rs,hrs,hry⟩:=fO rv hi
            have hb:(hG T (.cF b x n p r))[i]?=some (rs.map (cS T x)):=by
              show ([fw T b x n true,fw T b x n false].map fun z:Rs=>Option.map (cS T x) z)[i]?=_
              rw [Gz,hrs];rfl
            refine bJ ?_
            refine jR ?_
            refine bT ?_
            cases rs with
            | none =>
              cases (show y=V.aZ from hry)
              refine⟨_,rfl,_,rfl,bT ?_⟩
              refine⟨ha2,_,rfl,?_,aa,s6.put na2⟩
              rw [GN,hb]
              refine d8 (bv.aK fun p zs e=>?_) (.cons rfl .nil)
              rw [ao (bw e ha2 (by intro z;cases z))];exact e
            | some s =>
              have hsv6:SV aA H6 y s:=RV.sv (hry.same s6)
              obtain⟨yp,rfl,hyp⟩:∃yp,y=.ref yp/\True:=by
                obtain⟨a1,b1⟩:=s
                obtain⟨yp,e,_⟩:=hry
                exact⟨yp,e,trivial⟩
              refine⟨_,rfl,_,rfl,bN ?_⟩
              refine⟨_,rfl,_,rfl,_,rfl,fv,.ref yp,x,T,s,rfl,hf1.same (s13.trans (s4.trans (s5.trans s6))),hsv6,cX,fun v H7 f7 s7=>?_⟩
              have ha7:=s7 _ _ ha2
              refine⟨ha7,_,rfl,?_,aa,(s6.trans s7).put na2⟩
              rw [GN,hb]
              have kt:∀p zs,H7 p=some (.tup zs)->(upd H7 ac2 (.lst (us++[v]))) p=some (.tup zs):=fun p zs e=>by rw [ao (bw e ha7 (by intro z;cases z))];exact e
              exact d8 ((bv.same s7).aK kt) (.cons (FV.aK f7 kt) .nil)
          . rintro us Gg H6 ⟨c,rfl,bv,ha2,s6⟩
            rw [rvl] at bv
            refine⟨ac2,_,rfl,.inl ⟨aO.of ha2,fun t nt=>?_⟩⟩
            exact q t _ _ aa (lQ.same (show lQ H6 us (hG T (.cF b x n p r)) from bv) (af.new nt)) ((s1.trans (s15.trans s6)).trans (af.new nt))
theorem Bm {f:Addr} {fd:FuncData} (F:b0 K "leads" "leads" rH f fd) (Z:Bl mg) (O_known_beyond:Own P w K mg base "known_beyond" 4 ["facts", "end"] (uD aA)) (O_ways_on:Own P w K mg base "ways_on" 3 ["end"] kh):bA P w K mg base bX 5 f fd ["facts", "end"] (wG aA):=by
 refine F.ok (k:=4) uY (fun vs H Q E h=>?_) (fun cdv A outer s H vs Q E hr h=>?_)
 ·obtain⟨fv,ea,T,e,rfl,_⟩:=h
  rfl
 ·obtain⟨fv,ea,T,e,rfl,hf,he,cX,q⟩:=h
  refine⟨_,(ae (aJ (i:=2) uY.nd (aI O_known_beyond hr (ay (pv 0) (pv 1))))
   (ah (aF (bE bF rfl Z.tuple cb (au (fJ ["way", "there"] [] [] rfl (yU rfl Z.zip (ay (aI O_ways_on hr (au (pv 1))) (pv 2))) rfl (by decide +kernel) (by decide +kernel) (by decide +kernel) True.intro (fun _ _ _ _=>(qQ (K:=K) (n:=2) rfl (cZ (n:=2) rfl (bc (aN (i:=0) (show ((["way", "there"]:List Str)++([]:List Str)).Nodup by decide +kernel) (hf:=GQ rfl)) (bc (aN (i:=1) (show ((["way", "there"]:List Str)++([]:List Str)).Nodup by decide +kernel) (hf:=GQ rfl)) cC))))) (fun _ _ _ _=>(qP (d6 (fz (pv 1))))) (fun _ _ _ _=>(aB (ay (pv 0) (pv 1)))))))))),?_⟩
  refine⟨_,rfl,_,rfl,fv,ea,T,e,rfl,hf,he,cX,fun bt us H1 hb bv s1=>?_⟩
  refine⟨_,rfl,ea,e,rfl,s1 _ _ he,fun wt H2 hw s2=>?_⟩
  have hb2:=s2 _ _ hb
  have bv2:=bv.same s2
  refine⟨_,rfl,wt,bt,rfl,⟨_,av.of hw⟩,⟨_,av.of hb2⟩,fun acc na=>?_⟩
  refine yV (K:=K) (a:=wt) (b:=bt) (xs:=(aV e).map fun k=>V.int (k:Nat)) (ys:=us) (fun i zs Gg H'=>∃(c1 c2:Option V),Gg=[c1,c2]/\mG H' zs ((((aV e).zip (hG T e)).take i).filterMap fun p=>p.2.map fun U=>(p.1,U))/\zs.length<=i/\H' acc=some (.lst zs)/\af H2 H') ?_ ?_ ?_ ?_
  ·exact⟨none,none,rfl,.nil,Gj _,aa,af.new na⟩
  ·rintro i zs Gg H3 hi ⟨c1,c2,rfl,pv,hz,ha,s3⟩
   refine⟨av.of (s3 _ _ hw),av.of (s3 _ _ hb2),ha,?_⟩
   have h1:i<=(aV e).length:=by rw [Gi] at hi;omega
   have h2:(aV e).length<=2:=by cases e <;> (show _<=2) <;> simp [aV]
   exact bC (by omega)
  ·rintro i x y zs Gg H3 u hx hy hu ⟨c1,c2,rfl,pv,hz,ha,s3⟩
   obtain⟨k,hk,rfl⟩:∃k,(aV e)[i]?=some k/\x=V.int (k:Nat):=by
    rw [Gz] at hx
    cases z:(aV e)[i]? with
    | none=>rw [z] at hx;cases hx
    | some k=>rw [z] at hx;exact⟨k,rfl,(Gy.inj hx).symm⟩
   obtain⟨o,ho,hyo⟩:=fO bv2 hy
   have hnext:=sD (T:=T) hk ho
   have su:=af.new (o:=.tup [.int (k:Nat),y]) hu
   have hu4:(upd H3 u (.tup [.int (k:Nat),y])) u=some (.tup [.int (k:Nat),y]):=aa
   generalize (upd H3 u (.tup [.int (k:Nat),y]))=H4 at su hu4
   refine⟨u,_,rfl,av.of hu4,rfl,_,_,rfl,_,_,rfl,rfl,?_⟩
   refine⟨_,rfl,_,rfl,?_⟩
   cases o with
   | none =>
    cases (show y=V.aZ from hyo)
    refine bN ?_
    refine⟨_,_,rfl,?_,IE hz,su _ _ ha,s3.trans su⟩
    rw [hnext]
    simpa using pv.same su
   | some U =>
    obtain⟨yp,zsy,ssy,rfl,_⟩:=id hyo
    refine bT ?_
    refine⟨_,rfl,_,rfl,ln2,fun t nt=>?_⟩
    have s5:=af.new (o:=.tup [.int (k:Nat),.ref yp]) nt
    have ht:(upd H4 t (.tup [.int (k:Nat),.ref yp])) t=some (.tup [.int (k:Nat),.ref yp]):=aa
    generalize (upd H4 t (.tup [.int (k:Nat),.ref yp]))=H5 at s5 ht
    have ha5:=s5 _ _ (su _ _ ha)
    have kt:∀p ws,H5 p=some (.tup ws)->(upd H5 acc (.lst (zs++[V.ref t]))) p=some (.tup ws):=fun p ws e=>by rw [ao (bw e ha5 (by intro z;cases z))];exact e
    refine⟨ha5,_,_,rfl,?_,(by rw [Gq];show _+1<=_;omega),aa,(s3.trans (su.trans s5)).put na⟩
    rw [hnext]
    exact d8 ((pv.same (su.trans s5)).aK kt) (.cons ⟨t,.ref yp,rfl,kt _ _ ht,FV.aK (FV.same hyo (s3.trans (su.trans s5))) kt⟩ .nil)
  ·rintro zs Gg H3 ⟨c1,c2,rfl,pv,hz,ha,s3⟩
   have hm:min ((aV e).map fun k=>V.int (k:Nat)).length us.length=((aV e).zip (hG T e)).length:=by
    rw [List.length_zip,Gi,Paired.length bv2]
   rw [hm,GR] at pv
   refine⟨acc,_,rfl,.inl ⟨aO.of ha,fun t nt=>?_⟩⟩
   exact q t zs _ aa (mG.same (show mG H3 zs (cB T e) from pv) (af.new nt)) (((s1.trans s2).trans s3).trans (af.new nt))
theorem Bn {f:Addr} {fd:FuncData} (F:b0 K "start" "start" rJ f fd) (Z:Bl mg) (O_names_of:Own P w K mg base "names_of" 3 ["plan"] si):bA P w K mg base bX 4 f fd ["plan"] wI:=by
 refine F.ok (k:=3) Bi (fun vs H Q E h=>?_) (fun cdv A outer s H vs Q E hr h=>?_)
 ·obtain⟨plv,ps,xs,m,rfl,_⟩:=h
  rfl
 ·obtain⟨plv,ps,xs,m,rfl,hp,pok,hx,hal,q⟩:=h
  refine⟨_,(ah (aF (bE bF rfl Z.tuple cb (au (fJ ["name"] [] [] rfl (er (aI O_names_of hr (au (pv 0)))) rfl (by decide +kernel) (by decide +kernel) (by decide +kernel) True.intro (fun _ _ _ _=>(aN (i:=0) (show ((["name"]:List Str)++([]:List Str)).Nodup by decide +kernel) (hf:=GQ rfl))) (fun _ _ _ _=>eX) (fun _ _ _ _=>(aB (ay (pv 0) (aB (ay ai ai)))))))))),?_⟩
  refine⟨_,rfl,plv,ps,xs,m,rfl,hp,pok,hx,hal,fun nt ss H1 hnt hperm hsort hsl s1=>?_⟩
  refine⟨nt,rfl,⟨_,av.of hnt⟩,fun acc na=>?_⟩
  refine pQ (K:=K) (a:=nt) (xs:=ss.map V.str) (fun i zs Gg H'=>∃c:Option V,Gg=[c]/\bu H' zs ((ss.take i).map fun x=>.tuple [.str x,.tuple [.int 0,.int 0]])/\H' acc=some (.lst zs)/\af H1 H') ?_ ?_ ?_ ?_
  ·exact⟨none,rfl,.nil,aa,af.new na⟩
  ·rintro i zs Gg H2 hi ⟨c,rfl,r,ha,s2⟩
   refine⟨av.of (s2 _ _ hnt),ha,?_⟩
   have h1:=r.len
   rw [Gi,G9] at h1
   exact bC (by omega)
  ·rintro i x zs Gg H2 hi ⟨c,rfl,r,ha,s2⟩
   obtain⟨y,hy,rfl⟩:∃y,ss[i]?=some y/\x=V.str y:=by
    rw [Gz] at hi
    cases e:ss[i]? with
    | none=>rw [e] at hi;cases hi
    | some k=>rw [e] at hi;exact⟨k,rfl,(Gy.inj hi).symm⟩
   refine bJ ?_
   refine jR ?_
   refine bT ?_
   refine⟨_,rfl,ln2,fun t1 n1=>⟨ln2,fun t2 n2=>?_⟩⟩
   have q1:=af.new (o:=.tup [.int 0,.int 0]) n1
   have q2:=af.new (o:=.tup [.str y,.ref t1]) n2
   have ha3:=q2 _ _ (q1 _ _ ha)
   have kt:∀p ws,(upd (upd H2 t1 (.tup [.int 0,.int 0])) t2 (.tup [.str y,.ref t1])) p=some (.tup ws)->(upd (upd (upd H2 t1 (.tup [.int 0,.int 0])) t2 (.tup [.str y,.ref t1])) acc (.lst (zs++[V.ref t2]))) p=some (.tup ws):=fun p ws e=>by rw [ao (bw e ha3 (by intro z;cases z))];exact e
   refine⟨ha3,_,rfl,?_,aa,((s2.trans q1).trans q2).put na⟩
   rw [GN,hy,GF]
   exact (((r.same q1 (gI _)).same q2 (gI _)).aK kt (gI _)).app (.tup (kt _ _ aa) (.cons (.str _) (.cons (.tup (kt _ _ (q2 _ _ aa)) (.cons (.int _) (.cons (.int _) .nil))) .nil)))
  ·rintro zs Gg H2 ⟨c,rfl,r,ha,s2⟩
   rw [Gi,GR] at r
   refine⟨acc,_,rfl,.inl ⟨aO.of ha,fun t ht=>?_⟩⟩
   exact q (.ref t) ss _ (.tup aa (r.same (af.new ht) (gI _))) hperm hsort ((s1.trans s2).trans (af.new ht))
theorem qI {f:Addr} {fd:FuncData} (F:b0 K "__init__" "Row.__init__" iz f fd) (Z:Bl mg) {C:Addr} (T:oX K C)  : bA P w K mg base bX 1 f fd ["self", "first"] (qp P w C):=by
 refine F.ok (k:=0) qD (fun vs H Q E h=>?_) (fun cdv A outer s H vs Q E hr h=>?_)
 ·obtain⟨r,dx,k,d0,rfl,_⟩:=h
  rfl
 ·obtain⟨r,dx,k,d0,rfl,hr0,hk,rd,nl,q⟩:=h
  refine⟨_,(ae (yr (pv 0) (bZ (au (pv 1))) rfl)
   (ah (yr (pv 0) (A0 (mI hr) (Ao (pv 1) ai Cf) rfl rfl (List.cons_ne_nil _ _) (by show 1<=15;decide)) rfl))),?_⟩
  refine⟨_,rfl,tV,fun m nm=>?_⟩
  have s1:=af.new (o:=.lst [.ref k]) nm
  have hm1:(upd H m (.lst [.ref k])) m=some (.lst [.ref k]):=aa
  have nrm:r≠m:=ar hr0 nm
  have rd1:=rd.same s1 nl
  generalize (upd H m (.lst [.ref k]))=H1 at s1 hm1 rd1
  have hr1:=s1 _ _ hr0
  refine⟨_,rfl,r,C,dx,_,rfl,hr1,T.cl,T.members,(by show 0<1000;decide),?_⟩
  have kt1:∀p zs,H1 p=some (.tup zs)->∀o,(upd H1 r o) p=some (.tup zs):=fun p zs e o=>by rw [ao (bw e hr1 (by intro z;cases z))];exact e
  refine fun d nd=>?_
  have ndr:r≠d:=fun z=>by rw [<-z,aa] at nd;cases nd
  have nd1:H1 d=none:=by rw [ao ndr.symm] at nd;exact nd
  have ndm:d≠m:=fun z=>by rw [z,hm1] at nd1;cases nd1
  have kt2:∀p zs,H1 p=some (.tup zs)->∀o o',(upd (upd H1 r o) d o') p=some (.tup zs):=fun p zs e o o'=>by rw [ao (ar e nd1)];exact kt1 p zs e o
  refine⟨_,rfl,aa,k,.int 0,d0,rfl,hk,rd1.aK (fun p zs e=>kt2 p zs e _ _) nl,?_⟩
  refine⟨_,rfl,r,C,dx,_,rfl,(by rw [ao ndr,ao ndr,aa]),T.cl,T.places,(by rw [ql];show 1<1000;decide),?_⟩
  refine q m d _ ⟨⟨dx,by rw [aa,ql,zj]⟩,?_,?_,fun p hp=>?_⟩ (fun c o e n=>?_) nm (s1.free nd1)
  ·rw [ao nrm.symm,ao ndm.symm,ao ndm.symm,ao nrm.symm];exact hm1
  ·rw [ao ndr.symm,aa];rfl
  ·rw [Gk.mp hp]
   refine⟨hk,rd1.aK (fun p zs e=>?_) nl⟩
   have hpr:p≠r:=bw e hr1 (by intro z;cases z)
   have hpd:p≠d:=ar e nd1
   rw [ao hpr,ao hpd,ao hpd,ao hpr];exact e
  ·rw [ao n,ao (ar (s1 _ _ e) nd1),ao (ar (s1 _ _ e) nd1),ao n];exact s1 _ _ e
theorem qJ {f:Addr} {fd:FuncData} (F:b0 K "place_of" "Row.place_of" iA f fd) (Z:Bl mg) {C:Addr} (T:oX K C)  : bA P w K mg base bX 1 f fd ["self", "thing"] (qr P w C):=by
  refine F.ok (k:=0) qE (fun vs H Q E h=>?_) (fun cdv A outer s H vs Q E hr h=>?_)
  . obtain⟨r,m,d,k,d0,ms,rfl,_⟩:=h
    rfl
  . obtain⟨r,m,d,k,d0,ms,rfl,A,hms,hk,rd,nl,nls,q⟩:=h
    refine⟨_,(ae (bg (aH (xN (mI hr)) (pv 1) (fo (pv 0) rfl) (by with_unfolding_all rfl))
      (ae (dG (aT aU rfl Z.len bV (au (fo (pv 0) rfl))) (pI (fo (pv 0) rfl) (pv 1) (AQ (mI hr))))
      (ah (cf (df PySem.F.plainAttrs_list PySem.F.slot_list_append PySem.F.type_list_append bU (fo (pv 0) rfl) (au (pv 1))))))
      aM)
      (ah (aF (Cv (mI hr) (fo (pv 0) rfl) (pv 1) (fun _ _=>rfl))))),?_⟩
    obtain⟨dx,hob⟩:=A.ob
    obtain⟨n1,n2,n3⟩:=A.F8
    have hml:(ms.map fun p=>V.ref p.2).length=ms.length:=Gi ..
    have hv:=kK d0 0 ms
    refine⟨_,rfl,_,rfl,r,C,dx,_,_,rfl,hob,T.cl,T.places,iP,k,d,d0,dE 0 ms,rfl,rfl,⟨A.mJ,A.jE,hk,rd⟩,_,rfl,?_⟩
    by_cases hm:d0∈ms.map (·.1)
    . rw [if_pos hm] at hv
      refine bh (by rw [hv];rfl) ?_
      have e:kL ms d0 k=ms:=by unfold kL;rw [if_pos hm]
      rw [e] at q
      refine⟨_,rfl,r,C,dx,_,_,rfl,hob,T.cl,T.places,iP,_,rfl,k,d,d0,dE 0 ms,_,rfl,rfl,⟨A.mJ,A.jE,hk,rd⟩,hv,?_⟩
      rw [Nat.zero_add]
      exact q H A kJ.refl
    . rw [if_neg hm] at hv
      refine bY (by rw [hv];rfl) ?_
      refine⟨_,rfl,r,C,dx,_,_,rfl,hob,T.cl,T.members,gY,m,_,rfl,.inl (aO.of A.mem),_,rfl,r,C,dx,_,_,rfl,hob,T.cl,T.places,iP,_,rfl,k,d,d0,dE 0 ms,rfl,rfl,⟨A.mJ,A.jE,hk,rd⟩,bC (by rw [o1];omega),?_⟩
      have eput:putD (dE 0 ms) d0 k (.int ((ms.map fun p=>V.ref p.2).length:Nat))=dE 0 (ms++[(d0,k)]):=by
        unfold putD
        rw [hv,uI,hml,Nat.zero_add]
        rfl
      rw [eput]
      try change (_:Hp->Prop) (upd H d (fk P w d (dE 0 (ms++[(d0,k)]))))
      have hob1:(upd H d (fk P w d (dE 0 (ms++[(d0,k)])))) r=some (.ins C dx (rh (.ref m) (.ref d))):=by rw [ao n2];exact hob
      have hm1:(upd H d (fk P w d (dE 0 (ms++[(d0,k)])))) m=some (.lst (ms.map fun p=>V.ref p.2)):=by rw [ao n3.symm];exact A.mem
      refine⟨_,rfl,r,C,dx,_,_,rfl,hob1,T.cl,T.members,gY,.inl ⟨rfl,_,aO.of hm1⟩,_,rfl,m,_,_,rfl,rfl,hm1,bC (by omega),?_⟩
      have e:kL ms d0 k=ms++[(d0,k)]:=by unfold kL;rw [if_neg hm]
      rw [e] at q
      have kt:∀p zs,H p=some (.tup zs)->∀o o',(upd (upd H d o) m o') p=some (.tup zs):=fun p zs h o o'=>by
        rw [ao (bw h A.mem (by intro z;cases z)),ao (bw h A.mJ (by intro z;cases z))];exact h
      have keys:∀(H':Hp),(∀p zs,H p=some (.tup zs)->H' p=some (.tup zs))->∀p∈ms++[(d0,k)],eN p.1/\aX H' (.ref p.2) p.1:=fun H' kt' p hp=>by
        rcases Gw.mp hp with hp | hp
        . exact⟨(A.keys p hp).1,(A.keys p hp).2.aK kt' (nls p hp)⟩
        . rw [Gk.mp hp];exact⟨hk,rd.aK kt' nl⟩
      have A2:hJ P w C (upd (upd H d (fk P w d (dE 0 (ms++[(d0,k)])))) m (.lst ((ms.map fun p=>V.ref p.2)++[.ref k]))) r m d (ms++[(d0,k)]) :=
        ⟨⟨dx,by rw [ao n1];exact hob1⟩,by rw [aa,GF];rfl,by rw [ao n3,aa],keys _ fun p zs h=>kt p zs h _ _⟩
      have hv2:=kK d0 0 (ms++[(d0,k)])
      rw [if_pos (by rw [GF];exact GS _ (Gk.mpr rfl)),Nat.zero_add] at hv2
      obtain⟨dx2,hob2⟩:=A2.ob
      refine⟨_,rfl,r,C,dx2,_,_,rfl,hob2,T.cl,T.places,iP,_,rfl,k,d,d0,_,_,rfl,rfl,⟨A2.mJ,A2.jE,hk,(A2.keys (d0,k) (GS _ (Gk.mpr rfl))).2⟩,hv2,?_⟩
      exact q _ A2 fun c o h c1 c2=>by rw [ao c1,ao c2];exact h
theorem x9 {f:Addr} {fd:FuncData} (F:b0 K "reached" "reached" mW f fd) (Z:Bl mg) (O_ways_on:Own P w K mg base "ways_on" 3 ["end"] kh):bA P w K mg base bX 4 f fd ["plan"] sE:=by
  refine b0.F7 F (k:=3) hZ (fun vs H Q E h=>?_) (fun cdv A outer s H vs Q E hcd hr h=>?_)
  . obtain⟨plv,ps,rfl,_⟩:=h
    rfl
  . obtain⟨plv,ps,rfl,hp,hin,hn0,hn,q⟩:=h
    refine⟨_,(ae (aJ (i:=1) hZ.nd (CI hcd ai))
      (ae (aJ (i:=2) hZ.nd (bZ (au ai)))
      (ae (jd PassesOwn.never (z5 (pv 2) (fun _=>rfl))
      (ae (aJ (i:=3) hZ.nd (Dx PySem.F.plainAttrs_list PySem.F.slot_list_pop PySem.F.type_list_pop Dy (pv 2)))
      (ah (cW PassesOwn.never rfl (er (aI O_ways_on hr (au (aG bf (aG bf (pv 0) (pv 3)) ai)))) (aN (i:=4) hZ.nd)
      (ah (bg (aH zf (pv 4) (pv 1) (by with_unfolding_all rfl))
      (ae (cf (zg PySem.F.slot_set_add PySem.F.type_set_add wx (pv 1) (au (pv 4))))
      (ah (cf (df PySem.F.plainAttrs_list PySem.F.slot_list_append PySem.F.type_list_append bU (pv 2) (au (pv 4))))))
      aM))))))
      (ah (aF (bE bF rfl Z.tuple cb (au (aT (lN rfl) rfl Z.sorted fb (au (pv 1)))))))))),?_⟩
    obtain⟨pp,vs,rfl,e1,r1⟩:=aX.bP hp
    have hvl:=r1.len
    rw [Gi] at hvl
    refine fun fs nfs=>?_
    refine⟨aa,Sum.inl (0:Int),rfl,?_⟩
    try change (_:Hp->Prop) (upd (upd H fs (cK P w fs [])) fs (cK P w fs [Sum.inl (0:Int)]))
    rw [BK]
    have s1:=af.new (o:=cK P w fs [Sum.inl (0:Int)]) nfs
    have hf1:(upd H fs (cK P w fs [Sum.inl (0:Int)])) fs=some (cK P w fs (kI [0])):=aa
    generalize (upd H fs (cK P w fs [Sum.inl (0:Int)]))=H1 at s1 hf1
    refine⟨tV,fun wl nwl=>?_⟩
    have s2:=af.new (o:=.lst [.int 0]) nwl
    have hf2:=s2 _ _ hf1
    have hw2:(upd H1 wl (.lst [.int 0])) wl=some (.lst (vN [0])):=aa
    have nfw:fs≠wl:=ar hf1 nwl
    have nwH:H wl=none:=s1.free nwl
    have s12:=s1.trans s2
    generalize (upd H1 wl (.lst [.int 0]))=H2 at s2 hf2 hw2 s12
    refine⟨fun m Gf H'=>∃(ks ws:List Nat) (u1 u2:Option V),Gf=[some (.ref pp),some (.ref fs),some (.ref wl),u1,u2]/\H' fs=some (cK P w fs (kI ks))/\H' wl=some (.lst (vN ws))/\xR ps ks ws/\m=2*(ps.length-ks.length)+ws.length/\ws.length<=ks.length/\af H H',⟨_,[0],[0],_,_,rfl,hf2,hw2,⟨by simp,fun k hk=>by rw [Gk.mp hk];exact hn0,fun k hk=>by rw [Gk.mp hk];exact .zero,by simp,fun k hk=>hk,fun k hk=>.inl hk⟩,rfl,Gj _,s12⟩,?_⟩
    rintro m Gf H3 ⟨ks,ws,u1,u2,rfl,hf3,hw3,sk,hm,hwk,s3⟩
    have hkn:=d9 sk.nd sk.lt
    refine⟨_,rfl,!(vN ws).isEmpty,.inl ⟨_,aO.of hw3,rfl⟩,?_⟩
    rcases (show ws=[]\/∃ws' at_,ws=ws' ++ [at_] from (List.eq_nil_or_concat ws).imp id fun ⟨a,b,h⟩=>⟨a,b,by rw [h,List.concat_eq_append]⟩) with rfl | ⟨ws',at_,rfl⟩
    . refine bh rfl ?_
      refine⟨_,rfl,fs,ks.map (fun k:Nat=>(k:Int)),rfl,(by rw [hf3,rn];rfl),(by rw [Gi];omega),fun l ss hperm _ nl=>?_⟩
      obtain⟨ms,rfl,hms⟩:=hR hperm
      refine⟨l,_,rfl,.inl ⟨aO.of aa,?_⟩⟩
      rw [<-mE]
      intro t nt
      refine q t ms _ aa (fun k=>(hms.mem_iff).trans (sk.all k)) (fun k hk=>sk.lt k (hms.mem_iff.mp hk)) (by rw [hms.length_eq];omega) ((s3.trans (af.new nl)).trans (af.new nt))
    . have hwl:(ws' ++ [at_]).length=ws'.length+1:=by rw [Gq];rfl
      have hev:vN (ws' ++ [at_])=vN ws' ++ [V.int (at_:Nat)]:=by show (ws' ++ [at_]).map _=_;rw [GF];rfl
      refine bY (by rw [hev];cases vN ws' <;> rfl) ?_
      have hak:at_∈ks:=sk.sub at_ (GS _ (Gk.mpr rfl))
      have hat:=sk.lt at_ hak
      have hps:ps[at_]?=some ps[at_]:=by simp [hat]
      generalize ps[at_]=pce at hps
      obtain⟨ds,e⟩:=pce
      obtain⟨p',xs',pc,da,ea,wsv,ep,e1',el',hx',e2,e3,r3,e4⟩:=fh hp hps
      cases ep
      rw [e1] at e1'
      cases e1'
      refine⟨fun σ' H'=>∃(ks' ws2:List Nat) (u1 u2:Option V),σ' = [some (.ref pp),some (.ref fs),some (.ref wl),u1,u2]/\H' fs=some (cK P w fs (kI ks'))/\H' wl=some (.lst (vN ws2))/\xR ps ks' ws2/\2*(ps.length-ks'.length)+ws2.length<m/\ws2.length<=ks'.length/\af H H',fun σ' H' ⟨ks',ws2,u1,u2,h1,h2,h3,h4,h5,h6,h7⟩=>⟨_,h5,ks',ws2,u1,u2,h1,h2,h3,h4,rfl,h6,h7⟩,?_⟩
      refine⟨_,rfl,.inl ⟨rfl,_,aO.of hw3⟩,wl,_,.int (at_:Nat),rfl,rfl,hw3,(by rw [hev];simp),?_⟩
      have hdl:(vN (ws' ++ [at_])).dropLast=vN ws':=by rw [hev,List.dropLast_concat]
      rw [hdl]
      have hw4:(upd H3 wl (.lst (vN ws'))) wl=some (.lst (vN ws')):=aa
      have hf4:(upd H3 wl (.lst (vN ws'))) fs=some (cK P w fs (kI ks)):=by rw [ao nfw];exact hf3
      have s4:af H (upd H3 wl (.lst (vN ws'))):=s3.put nwH
      generalize (upd H3 wl (.lst (vN ws')))=H4 at hw4 hf4 s4
      refine⟨_,rfl,_,rfl,pp,_,_,_,rfl,rfl,av.of (s4 _ _ e1),bS hx',pc,_,1,_,rfl,rfl,av.of (s4 _ _ e2),dA,ea,e,rfl,s4 _ _ e4,fun wt H5 hwt s5=>?_⟩
      refine⟨wt,rfl,⟨_,av.of hwt⟩,fB (K:=K) (a:=wt) (xs:=vN (aV e)) (fun i Gf H'=>∃(ks' add:List Nat) (u2:Option V),Gf=[some (.ref pp),some (.ref fs),some (.ref wl),some (.int (at_:Nat)),u2]/\H' fs=some (cK P w fs (kI ks'))/\H' wl=some (.lst (vN (ws' ++ add)))/\ks' = ks++add/\ks'.Nodup/\(∀k∈ks',k<ps.length)/\(∀k∈add,iV ps k)/\(∀k∈(aV e).take i,k∈ks')/\(∀c o,H5 c=some o->c≠fs->c≠wl->H' c=some o)) ?_ ?_ ?_ ?_⟩
      . exact⟨ks,[],_,rfl,s5 _ _ hf4,by rw [Hm];exact s5 _ _ hw4,by rw [Hm],sk.nd,sk.lt,(fun _ h=>nomatch h),(fun _ h=>by simp at h),fun c o h _ _=>h⟩
      . rintro i Gf H6 hi ⟨ks',add,u2,rfl,h1,h2,rfl,h4,h5,h6,h7,h8⟩
        exact av.of (h8 _ _ hwt (bw hwt (s5 _ _ hf4) (by intro z;cases z)) (bw hwt (s5 _ _ hw4) (by intro z;cases z)))
      . rintro i y Gf H6 hi ⟨ks',add,u2,rfl,h1,h2,rfl,h4,h5,h6,h7,h8⟩
        obtain⟨k0,hk0,rfl⟩:∃k,(aV e)[i]?=some k/\y=V.int (k:Nat):=by
          rw [Gz] at hi
          cases z:(aV e)[i]? with
          | none=>rw [z] at hi;cases hi
          | some k=>rw [z] at hi;exact⟨k,rfl,(Gy.inj hi).symm⟩
        have hk0m:=GB hk0
        have hk0b:=nB hin hps k0 hk0m
        have htk:(aV e).take (i+1)=(aV e).take i++[k0]:=by rw [GN,hk0];rfl
        refine bJ ?_
        refine⟨_,rfl,_,rfl,fs,_,Sum.inl (k0:Int),rfl,h1,rfl,fun b hb=>⟨_,rfl,?_⟩⟩
        rw [uK] at hb
        by_cases hm0:k0∈ks++add
        . refine bh (by rw [hb.mpr hm0];rfl) ?_
          refine⟨ks++add,add,_,rfl,h1,h2,rfl,h4,h5,h6,fun k hk=>?_,h8⟩
          rw [htk] at hk
          rcases Gw.mp hk with hk | hk
          . exact h7 k hk
          . rw [Gk.mp hk];exact hm0
        . refine bY (by rw [IA.mpr fun z=>hm0 (hb.mp z)];rfl) ?_
          have hfew:=d9 h4 h5
          refine⟨_,rfl,⟨fs,_,rfl,h1⟩,_,rfl,fs,_,Sum.inl (k0:Int),rfl,rfl,h1,(by rw [Gi];exact HU (show (ks++add).length+1<=1002 by omega) (by decide)),?_⟩
          rw [uL,show LS.putIn (ks++add) k0=ks++(add++[k0]) by unfold LS.putIn;rw [if_neg hm0,GY]]
          try change (_:Hp->Prop) (upd H6 fs (cK P w fs (kI (ks++(add++[k0])))))
          have h27:(upd H6 fs (cK P w fs (kI (ks++(add++[k0]))))) wl=some (.lst (vN (ws' ++ add))):=by rw [ao nfw.symm];exact h2
          have hal:(ws' ++ add).length<=200:=by
            rw [Gq] at hfew ⊢
            omega
          refine⟨_,rfl,.inl ⟨rfl,_,aO.of h27⟩,_,rfl,wl,_,_,rfl,rfl,h27,bC (by rw [Gi];omega),?_⟩
          refine⟨_,add++[k0],_,rfl,by rw [ao nfw,aa],?_,rfl,?_,?_,?_,?_,fun c o h c1 c2=>by rw [ao c2,ao c1];exact h8 c o h c1 c2⟩
          . rw [aa]
            show _=some (HO.lst ((ws' ++ (add++[k0])).map _))
            rw [<-GY,GF]
            rfl
          . rw [<-GY,Hz]
            refine⟨h4,by simp,fun x hx y hy z=>?_⟩
            rw [Gk.mp hy] at z
            exact hm0 (z ▸ hx)
          . intro k hk
            rw [<-GY] at hk
            rcases Gw.mp hk with hk | hk
            . exact h5 k hk
            . rw [Gk.mp hk];exact hk0b
          . intro k hk
            rcases Gw.mp hk with hk | hk
            . exact h6 k hk
            . rw [Gk.mp hk];exact .step (sk.uM at_ hak) hps hk0m
          . intro k hk
            rw [htk] at hk
            rw [<-GY]
            rcases Gw.mp hk with hk | hk
            . exact GV _ (h7 k hk)
            . exact GS _ hk
      . rintro Gf H6 ⟨ks',add,u2,rfl,h1,h2,rfl,h4,h5,h6,h7,h8⟩
        rw [show (vN (aV e)).length=(aV e).length from Gi ..,GR] at h7
        have hfew:=d9 h4 h5
        refine⟨ks++add,ws' ++ add,_,_,rfl,h1,h2,⟨h4,h5,fun k hk=>?_,GV _ sk.zero,fun k hk=>?_,fun k hk=>?_⟩,?_,?_,fun c o h=>?_⟩
        . rcases Gw.mp hk with hk | hk
          . exact sk.uM k hk
          . exact h6 k hk
        . rcases Gw.mp hk with hk | hk
          . exact GV _ (sk.sub k (GV _ hk))
          . exact GS _ hk
        . rcases Gw.mp hk with hk | hk
          . by_cases hka:k=at_
            . subst hka
              refine .inr fun ds' e' he' j hj=>?_
              rw [hps] at he'
              cases he'
              exact h7 j hj
            . rcases sk.done k hk with hw | hd
              . rcases Gw.mp hw with hw | hw
                . exact .inl (GV _ hw)
                . exact absurd (Gk.mp hw) hka
              . exact .inr fun ds' e' he' j hj=>GV _ (hd ds' e' he' j hj)
          . exact .inl (GS _ hk)
        . rw [Gq] at hfew ⊢
          rw [Gq] at ⊢
          rw [hwl] at hm
          omega
        . rw [Gq,Gq]
          omega
        . exact h8 c o (s5 _ _ (s4 _ _ h)) (ar h nfs) (ar h nwH)
theorem Bo {f:Addr} {fd:FuncData} (F:b0 K "heads" "heads" rK f fd) (Z:Bl mg) (O_reached:Own P w K mg base "reached" 4 ["plan"] sE) (O_ways_on:Own P w K mg base "ways_on" 3 ["end"] kh):bA P w K mg base bX 5 f fd ["plan"] wK:=by
 refine F.ok (k:=4) kZ (fun vs H Q E h=>?_) (fun cdv A outer s H vs Q E hr h=>?_)
 ·obtain⟨plv,ps,rfl,_⟩:=h
  rfl
 ·obtain⟨plv,ps,rfl,hp,hin,hn0,hn,q⟩:=h
  refine⟨_,(ae (aJ (i:=1) kZ.nd (xj zd rfl Z.set zc))
   (ae (cW PassesOwn.never rfl (er (aI O_reached hr (au (pv 0)))) (aN (i:=2) kZ.nd)
   (ah (cW PassesOwn.never rfl (er (aI O_ways_on hr (au (aG bf (aG bf (pv 0) (pv 2)) ai)))) (aN (i:=3) kZ.nd)
   (ah (bg (aH tF (pv 3) (pv 2) (aP _))
   (ah (cf (zg PySem.F.slot_set_add PySem.F.type_set_add wx (pv 1) (au (pv 3)))))
   aM)))))
   (ah (aF (bE bF rfl Z.tuple cb (au (aT (lN rfl) rfl Z.sorted fb (au (pv 1))))))))),?_⟩
  obtain⟨pp,vs,rfl,e1,r1⟩:=aX.bP hp
  have hvl:=r1.len
  rw [Gi] at hvl
  refine⟨rfl,fun fs nfs=>?_⟩
  try change (_:Hp->Prop) (upd H fs (cK P w fs []))
  have s1:=af.new (o:=cK P w fs []) nfs
  have hf1:(upd H fs (cK P w fs [])) fs=some (cK P w fs (kI [])):=aa
  generalize (upd H fs (cK P w fs []))=H1 at s1 hf1
  refine⟨_,rfl,_,ps,rfl,hp.same s1 (dN ps),hin,hn0,hn,fun t ks H2 ht hks hlt hkl s2=>?_⟩
  have hf2:=s2 _ _ hf1
  have s12:=s1.trans s2
  refine⟨t,rfl,⟨_,av.of ht⟩,fB (K:=K) (a:=t) (xs:=vN ks) (fun i Gf H'=>∃(hs:List Nat) (u1 u2:Option V),Gf=[some (.ref pp),some (.ref fs),u1,u2]/\H' fs=some (cK P w fs (kI hs))/\hs.Nodup/\(∀k∈hs,k<ps.length)/\(∀k,k∈hs↔∃j∈ks.take i,∃ds e,ps[j]?=some (ds,e)/\k∈aV e/\k<=j)/\(∀c o,H2 c=some o->c≠fs->H' c=some o)) ?_ ?_ ?_ ?_⟩
  ·exact⟨[],_,_,rfl,hf2,Hi,(fun _ h=>nomatch h),fun k=>⟨fun h=>(nomatch h),fun ⟨j,hj,_⟩=>(by simp at hj)⟩,fun c o h _=>h⟩
  ·rintro i Gf H3 hi ⟨hs,u1,u2,rfl,h1,h2,h3,h4,h5⟩
   exact av.of (h5 _ _ ht (bw ht hf2 (by intro z;cases z)))
  ·rintro i y Gf H3 hi ⟨hs,u1,u2,rfl,h1,h2,h3,h4,h5⟩
   obtain⟨at_,hat,rfl⟩:∃k,ks[i]?=some k/\y=V.int (k:Nat):=by
    rw [Gz] at hi
    cases z:ks[i]? with
    | none=>rw [z] at hi;cases hi
    | some k=>rw [z] at hi;exact⟨k,rfl,(Gy.inj hi).symm⟩
   have hatl:=hlt at_ (GB hat)
   have hps:ps[at_]?=some ps[at_]:=by simp [hatl]
   generalize ps[at_]=pce at hps
   obtain⟨ds,e⟩:=pce
   obtain⟨p',xs',pc,da,ea,wsv,ep,e1',el',hx',e2,e3,r3,e4⟩:=fh hp hps
   cases ep
   rw [e1] at e1'
   cases e1'
   have k3:∀p zs,H p=some (.tup zs)->H3 p=some (.tup zs):=fun p zs h=>h5 _ _ (s12 _ _ h) (bw (s12 _ _ h) hf2 (by intro z;cases z))
   refine bJ ?_
   refine⟨_,rfl,_,rfl,pp,_,_,_,rfl,rfl,av.of (k3 _ _ e1),bS hx',pc,_,1,_,rfl,rfl,av.of (k3 _ _ e2),dA,ea,e,rfl,k3 _ _ e4,fun wt H5 hwt s5=>?_⟩
   refine⟨wt,rfl,⟨_,av.of hwt⟩,fB (K:=K) (a:=wt) (xs:=vN (aV e)) (fun j Gf H'=>∃(hs':List Nat) (u2:Option V),Gf=[some (.ref pp),some (.ref fs),some (.int (at_:Nat)),u2]/\H' fs=some (cK P w fs (kI hs'))/\hs'.Nodup/\(∀k∈hs',k<ps.length)/\(∀k,k∈hs'↔k∈hs\/(k∈(aV e).take j/\k<=at_))/\(∀c o,H5 c=some o->c≠fs->H' c=some o)) ?_ ?_ ?_ ?_⟩
   ·exact⟨hs,_,rfl,s5 _ _ h1,h2,h3,fun k=>⟨.inl,fun h=>h.elim id fun ⟨z,_⟩=>by simp at z⟩,fun c o h _=>h⟩
   ·rintro j Gf H6 hj ⟨hs',u2,rfl,g1,g2,g3,g4,g5⟩
    exact av.of (g5 _ _ hwt (bw hwt (s5 _ _ h1) (by intro z;cases z)))
   ·rintro j y Gf H6 hj ⟨hs',u2,rfl,g1,g2,g3,g4,g5⟩
    obtain⟨k0,hk0,rfl⟩:∃k,(aV e)[j]?=some k/\y=V.int (k:Nat):=by
     rw [Gz] at hj
     cases z:(aV e)[j]? with
     | none=>rw [z] at hj;cases hj
     | some k=>rw [z] at hj;exact⟨k,rfl,(Gy.inj hj).symm⟩
    have hk0m:=GB hk0
    have hk0b:=nB hin hps k0 hk0m
    have htk:(aV e).take (j+1)=(aV e).take j++[k0]:=by rw [GN,hk0];rfl
    refine bJ ?_
    refine⟨_,rfl,_,rfl,_,_,rfl,rfl,_,rfl,?_⟩
    refine dh (fun hc=>?_) (fun hc=>?_)
    ·have hle:k0<=at_:=by have:=of_decide_eq_true hc;omega
     have hfew:=d9 g2 g3
     refine⟨_,rfl,⟨fs,_,rfl,g1⟩,_,rfl,fs,_,Sum.inl (k0:Int),rfl,rfl,g1,(by rw [Gi];exact HU (show hs'.length+1<=1002 by omega) (by decide)),?_⟩
     rw [uL]
     try change (_:Hp->Prop) (upd H6 fs (cK P w fs (kI (LS.putIn hs' k0))))
     refine⟨LS.putIn hs' k0,_,rfl,aa,uz g2,fun k hk=>?_,fun k=>?_,fun c o h c1=>by rw [ao c1];exact g5 c o h c1⟩
     ·rcases LS.eR.mp hk with hk | hk
      ·exact g3 k hk
      ·rw [hk];exact hk0b
     ·rw [LS.eR,g4,htk]
      constructor
      ·rintro ((h | ⟨h,h'⟩) | rfl)
       ·exact .inl h
       ·exact .inr ⟨GV _ h,h'⟩
       ·exact .inr ⟨GS _ (Gk.mpr rfl),hle⟩
      ·rintro (h | ⟨h,h'⟩)
       ·exact .inl (.inl h)
       ·rcases Gw.mp h with h | h
        ·exact .inl (.inr ⟨h,h'⟩)
        ·exact .inr (Gk.mp h)
    ·have hle:¬k0<=at_:=fun z=>hc (decide_eq_true (by omega))
     refine⟨hs',_,rfl,g1,g2,g3,fun k=>?_,g5⟩
     rw [g4,htk]
     constructor
     ·rintro (h | ⟨h,h'⟩)
      ·exact .inl h
      ·exact .inr ⟨GV _ h,h'⟩
     ·rintro (h | ⟨h,h'⟩)
      ·exact .inl h
      ·rcases Gw.mp h with h | h
       ·exact .inr ⟨h,h'⟩
       ·rw [Gk.mp h] at h';exact absurd h' hle
   ·rintro Gf H6 ⟨hs',u2,rfl,g1,g2,g3,g4,g5⟩
    rw [show (vN (aV e)).length=(aV e).length from Gi ..,GR] at g4
    refine⟨hs',_,_,rfl,g1,g2,g3,fun k=>?_,fun c o h c1=>g5 c o (s5 _ _ (h5 c o h c1)) c1⟩
    rw [g4,h4,GN,hat]
    constructor
    ·rintro (⟨j,hj,r⟩ | ⟨h,h'⟩)
     ·exact⟨j,GV _ hj,r⟩
     ·exact⟨at_,GS _ (Gk.mpr rfl),ds,e,hps,h,h'⟩
    ·rintro⟨j,hj,ds',e',hp',h,h'⟩
     rcases Gw.mp hj with hj | hj
     ·exact .inl ⟨j,hj,ds',e',hp',h,h'⟩
     ·have hj:j=at_:=Gk.mp hj
      subst hj
      rw [hps] at hp'
      cases hp'
      exact .inr ⟨h,h'⟩
  ·rintro Gf H3 ⟨hs,u1,u2,rfl,h1,h2,h3,h4,h5⟩
   rw [show (vN ks).length=ks.length from Gi ..,GR] at h4
   have hfew:=d9 h2 h3
   refine⟨_,rfl,fs,hs.map (fun k:Nat=>(k:Int)),rfl,(by rw [h1,rn];rfl),(by rw [Gi];omega),fun l ss hperm _ nl=>?_⟩
   obtain⟨ms,rfl,hms⟩:=hR hperm
   refine⟨l,_,rfl,.inl ⟨aO.of aa,?_⟩⟩
   rw [<-mE]
   intro t' nt
   have s3:af H H3:=fun c o h=>h5 c o (s12 c o h) (ar h nfs)
   refine q t' ms _ aa (fun k=>(hms.mem_iff).trans ((h4 k).trans ?_)) (by rw [hms.length_eq];omega) ((s3.trans (af.new nl)).trans (af.new nt))
   constructor
   ·rintro⟨j,hj,ds,e,r1,r2,r3⟩
    exact⟨j,ds,e,(hks j).mp hj,r1,r2,r3⟩
   ·rintro⟨j,ds,e,hj,r1,r2,r3⟩
    exact⟨j,(hks j).mpr hj,ds,e,r1,r2,r3⟩
theorem vw {f:Addr} {fd:FuncData} (F:b0 K "copy_for" "copy_for" lg f fd) (Z:Bl mg)  : bA P w K mg base bX 1 f fd ["lead", "tops", "places", "most"] (sF P w):=by
  refine F.ok (k:=0) ox (fun vs H Q E h=>?_) (fun cdv A outer s H vs Q E hr h=>?_)
  . obtain⟨la,tp,d,most,k,T,dl,hs,fv,ms,cs,tops,rfl,_⟩:=h
    rfl
  . obtain⟨la,tp,d,most,k,T,dl,hs,fv,ms,cs,tops,rfl,hla,rl,cd,lay,htp,hts,hd,jE,cc,q⟩:=h
    refine⟨_,(ae (aJ (i:=4) ox.nd (aG bf (pv 0) ai))
      (ae (bg (aH jG (pv 4) (pv 1) (by with_unfolding_all rfl))
      (ah (aF (aB (ay (pv 4) (aB bQ)))))
      aM)
      (ae (bg (PW.pt (ku (aH (Cu (mI hr)) (pv 0) (pv 2) (by with_unfolding_all rfl)) (j6 (aH gy (aT xQ rfl Z.len bV (au (pv 2))) (pv 3) (aP _)))))
      (ah (aF (pv 0)))
      aM)
      (ah (aF (aB (ay (pv 4) (aB bQ)))))))),?_⟩
    refine⟨_,rfl,la,_,0,_,rfl,rfl,av.of hla,cJ,?_⟩
    have out:br tops most cs (k,T)=(k,T0)->∀t1 t2,H t1=none->(upd H t1 (.tup [])) t2=none->Q (.ref t2) (upd (upd H t1 (.tup [])) t2 (.tup [.int (k:Nat),.ref t1])):=fun e t1 t2 n1 n2=>by
      rw [e] at q
      have q2:=af.new (o:=.tup [.int (k:Nat),.ref t1]) n2
      exact q t2 (.tuple [.int (k:Nat),.tuple []]) _ (.tup aa (.cons (.int _) (.cons (.tup (q2 _ _ aa) .nil) .nil))) ⟨_,FD.zero,rfl⟩ ((af.new n1).trans q2)
    refine⟨_,rfl,_,rfl,tp,_,rfl,.inr (av.of htp),rfl,ny _,_,rfl,?_⟩
    rw [show (if false=true then !lL (.int (k:Nat)) (vN hs) else lL (.int (k:Nat)) (vN hs))=decide (k∈hs) from kn k hs]
    by_cases hk:k∈hs
    . refine bY (decide_eq_true hk) ?_
      exact⟨_,rfl,(by show 0<=sizeLine;decide),fun t1 n1=>⟨ln2,fun t2 n2=>out (by unfold br;rw [if_pos ((hts k).mp hk)]) t1 t2 n1 n2⟩⟩
    . refine bh (decide_eq_false hk) ?_
      have hnt:¬tops k:=fun z=>hk ((hts k).mpr z)
      obtain⟨hmem,_⟩:=cd.mem cc
      have hcl:(ms.map (·.1)).length=cs.length:=Paired.length cc
      have hml:ms.length=cs.length:=by rw [<-hcl,Gi]
      have hv:=kK dl 0 ms
      refine⟨_,rfl,_,rfl,la,d,dl,dE 0 ms,rfl,rfl,⟨hd,jE,cd.key lay,rl⟩,_,rfl,?_⟩
      by_cases hin:(k,T)∈cs
      . rw [if_pos (hmem.mpr hin)] at hv
        refine bY (by rw [hv];rfl) (bT ?_)
        exact⟨_,rfl,q la dl H rl (by unfold br;rw [if_neg hnt,if_pos (.inl hin)];exact cd) (af.refl H)⟩
      . rw [if_neg (fun z=>hin (hmem.mp z))] at hv
        refine bh (by rw [hv];rfl) ?_
        refine⟨_,rfl,d,dE 0 ms,rfl,hd,_,rfl,_,_,rfl,rfl,_,rfl,?_⟩
        rw [o1]
        refine dh (fun hc=>?_) (fun hc=>?_)
        . have hlt:cs.length<most:=by have:=of_decide_eq_true hc;omega
          exact⟨_,rfl,q la dl H rl (by unfold br;rw [if_neg hnt,if_pos (.inr hlt)];exact cd) (af.refl H)⟩
        . have hlt:¬cs.length<most:=fun z=>hc (decide_eq_true (by omega))
          exact⟨_,rfl,(by show 0<=sizeLine;decide),fun t1 n1=>⟨ln2,fun t2 n2=>out (by unfold br;rw [if_neg hnt,if_neg (fun z=>z.elim hin hlt)]) t1 t2 n1 n2⟩⟩
theorem zK {f:Addr} {fd:FuncData} (F:b0 K "end_to" "end_to" pA f fd) (Z:Bl mg) (O_without_ways:Own P w K mg base "without_ways" 4 ["end"] sy):bA P w K mg base bX 5 f fd ["end", "ways"] wM:=by
 refine F.ok (k:=4) zI (fun vs H Q E h=>?_) (fun cdv A outer s H vs Q E hr h=>?_)
 ·obtain⟨ea,l,e,ns,rfl,_⟩:=h
  rfl
 ·obtain⟨ea,l,e,ns,rfl,he,hl,hns,hn2,q⟩:=h
  refine⟨_,(ae (bg (aH cx (aT aU rfl Z.len bV (au (pv 1))) ai (aP _))
   (ah (aF (aB (ay ba (aG cg (pv 1) ai)))))
   aM)
   (ah (aF (aY wc (aI O_without_ways hr (au (pv 0))) (bE bF rfl Z.tuple cb (au (pv 1))))))),?_⟩
  refine⟨_,rfl,l,_,rfl,.inl (aO.of hl),rfl,_,rfl,?_⟩
  have hlen:(vN ns).length=ns.length:=Gi ..
  by_cases h1:ns.length=1
  ·obtain⟨a,rfl⟩:∃a,ns=[a]:=List.length_eq_one_iff.mp h1
   refine bY (decide_eq_true rfl) ?_
   exact⟨_,rfl,l,_,0,_,rfl,rfl,aO.of hl,cJ,ln2,fun t nt=>q t _ aa (af.new nt)⟩
  ·refine bh (decide_eq_false fun z=>h1 (by have:=V.int.inj z;omega)) ?_
   have hns:=hns.resolve_left h1
   refine⟨_,rfl,ea,e,rfl,he,fun t H1 ht s1=>⟨_,rfl,l,_,rfl,.inl ⟨aO.of (s1 _ _ hl),fun t2 nt2=>?_⟩⟩⟩
   have q2:=af.new (o:=.tup (vN ns)) nt2
   have hhl:(gZ e).length<=3:=by cases e <;> simp [gZ]
   refine⟨t,t2,_,_,rfl,rfl,q2 _ _ ht,aa,GZ (bC (by omega)),fun t3 H3 ht3 s3=>?_⟩
   refine q t3 H3 ?_ ((s1.trans q2).trans s3)
   have e1:iu e ns=AR e ns:=by
    match ns,h1 with
    | [],_=>rfl
    | [a],h=>exact absurd rfl h
    | _::_::_,_=>rfl
   rw [e1,AS hns]
   exact ht3
theorem vx {f:Addr} {fd:FuncData} (F:b0 K "led_past" "led_past" lh f fd) (Z:Bl mg) {tk_MOST_TO_LEAD:Tok} (G_MOST_TO_LEAD:mg "MOST_TO_LEAD" = some (.int 60 tk_MOST_TO_LEAD)) {tk_MOST_NEEDED:Tok} (G_MOST_NEEDED:mg "MOST_NEEDED" = some (.int 300 tk_MOST_NEEDED)) {cP cM cN cR cL cO:Addr} (GX:xT K mg cP cM cN cR cL cO) {C:Addr} (T:oX K C) (O_heads:Own P w K mg base "heads" 5 ["plan"] wK) (O_start:Own P w K mg base "start" 4 ["plan"] wI) (O_Row___init__:Au P w K mg base C "Row" 1 ["self", "first"] (qp P w C)) (O_Row_place_of:As P w K mg base C "place_of" 1 ["self", "thing"] (qr P w C)) (O_behind:Own P w K mg base "behind" 3 ["facts", "deeds"] ux) (O_leads:Own P w K mg base "leads" 5 ["facts", "end"] (wG aA)) (O_copy_for:Own P w K mg base "copy_for" 1 ["lead", "tops", "places", "most"] (sF P w)) (O_end_to:Own P w K mg base "end_to" 5 ["end", "ways"] wM):bA P w K mg base (gu P w) 7 f fd ["plan", "most"] (zC (fm P w C) (kU cM)):=by
  refine F.E3 (k:=6) bO (fun vs H Q E h=>?_) (fun cdv A outer s H vs Q E hr h=>?_)
  . rcases h with h | h
    . obtain⟨plv,ps,xs,most,rfl,_⟩:=h
      rfl
    . obtain⟨p,xs,m,rfl,_⟩:=h
      rfl
  . rcases h with h | h
    . obtain⟨plv,ps,xs,most,rfl,hp,pok,nok,hx10,hn0,hn,hm1,hm3,q⟩:=h
      refine⟨_,(ae (bg (aH iD (aT aU rfl Z.len bV (au (pv 0))) (cG (v:=.int 60) rfl G_MOST_TO_LEAD ⟨_,rfl⟩) (aP _))
      (ah (kR GX.tM GX.gM (au (qy (aT aU rfl Z.len bV (au (pv 0)))))))
      aM)
      (fX.nS (ae (aJ (i:=2) bO.nd (aI O_heads hr (au (pv 0))))
      (ae (dQ (aJ (i:=3) bO.nd (wb O_Row___init__ (hr.mono (by decide)) rfl (au (aB (ay ai (fe (aH jG ai (pv 2) (by with_unfolding_all rfl)) (aB bQ) (aI O_start hr (au (pv 0))))))))))
      (ae (aJ (i:=4) bO.nd (bZ bQ))
      (ae (jd PassesOwn.never (aH gy (aT aU rfl Z.len bV (au (pv 4))) (aT aU rfl Z.len bV (au (fo (pv 3) rfl))) (aP _))
      (ae (dG (aG cg (fo (pv 3) rfl) (aT aU rfl Z.len bV (au (pv 4)))) (cZ rfl (bc (aN (i:=5) bO.nd) (bc (aN (i:=6) bO.nd) cC))))
      (ae (dG (aG bf (pv 0) (pv 5)) (cZ rfl (bc (aN (i:=7) bO.nd) (bc (aN (i:=8) bO.nd) cC))))
      (ae (aJ (i:=9) bO.nd (aI O_leads hr (ay (aI O_behind hr (ay (pv 6) (pv 7))) (pv 8))))
      (ae (il (i:=10) ["lead"] ["copies", "tops", "most"] [3,2,1] rfl bO.nd rfl rfl rfl (er (pv 9)) rfl (by decide +kernel) (by decide +kernel) (by decide +kernel) ⟨⟨rfl,.inl rfl,rfl⟩,⟨⟨rfl,.inl rfl,rfl⟩,⟨⟨rfl,.inl rfl,rfl⟩,True.intro⟩⟩⟩ (fun _ _ _ _=>(aN (i:=0) (show ((["lead"]:List Str)++(["copies", "tops", "most"]:List Str)).Nodup by decide +kernel) (hf:=GQ rfl))) (fun _ _ _ _=>eX) (fun _ _ _ _=>(wa O_Row_place_of (pv 1) (hr.mono (by decide)) (au (aI O_copy_for hr (uV (pv 0) (pv 2) (wN (K:=K) rfl (pv 1) rfl) (pv 3)))))))
      (ah (cf (df PySem.F.plainAttrs_list PySem.F.slot_list_append PySem.F.type_list_append bU (pv 4) (au (aB (ay (pv 7) (aI O_end_to hr (ay (pv 8) (pv 10))))))))))))))
      (ah (aF (aB (ay (bE bF rfl Z.tuple cb (au (pv 4))) (bE bF rfl Z.tuple cb (au (fo (pv 3) rfl))))))))))))),?_⟩
      obtain⟨pp,vs,rfl,e1,r1⟩:=aX.bP hp
      have hvl:=r1.len
      rw [Gi] at hvl
      have hin:=pok.yR
      refine⟨_,rfl,pp,_,rfl,.inr (av.of e1),_,_,rfl,rfl,_,rfl,?_⟩
      refine bh (decide_eq_false (by omega)) ?_
      refine⟨_,rfl,_,ps,rfl,hp,hin,hn0,hn,fun tp hs H1 htp hhs hsl s1=>?_⟩
      have hp1:=hp.same s1 (dN ps)
      have hal:(bp ps).length<=4000:=by
        have h1:=CG pok
        have h2:ps.length*(2*6+1)<=60*13:=Nat.mul_le_mul hn (Gj 13)
        omega
      refine⟨fun σ' H'=>∃(r m d ka:Addr) (d0:PyData),σ' = [some (.ref pp),some (.int (most:Nat)),some (.ref tp),some (.ref r),none,none,none,none,none,none,none]/\hJ P w C H' r m d [(d0,ka)]/\CD (gr ps) d0/\H m=none/\H d=none/\H r=none/\af H1 H',?_,?_⟩
      . have layc:oY (gr ps).2:=by
          unfold gr
          split
          . exact cT.zero.lay nok
          . exact (kN pok).lay nok
        refine⟨_,rfl,tp,_,rfl,.inr (av.of htp),rfl,ny _,_,rfl,?_⟩
        rw [show (if false=true then !lL (.int 0) (vN hs) else lL (.int 0) (vN hs))=decide (0∈hs) from kn 0 hs]
        by_cases h0':0∈hs
        . have h0:=(hhs 0).mp h0'
          refine bY (decide_eq_true h0') ?_
          refine⟨(by show 0<=sizeLine;decide),fun t1 n1=>⟨ln2,fun ka nka=>fun r dx nx ndx nex=>?_⟩⟩
          have cd:=(show CD (gr ps) (.tuple [.int ((0:Nat):Int),.tuple []]) from by unfold gr;rw [if_pos h0];exact⟨_,FD.zero,rfl⟩)
          have nl:=cd.ic
          have q2:=af.new (o:=.tup [.int 0,.ref t1]) nka
          have s3:=(af.new (o:=.tup []) n1).trans q2
          have rd3:aX (upd (upd H1 t1 (.tup [])) ka (.tup [.int 0,.ref t1])) (.ref ka) (.tuple [.int ((0:Nat):Int),.tuple []]):=.tup aa (.cons (.int _) (.cons (.tup (q2 _ _ aa) .nil) .nil))
          generalize (upd (upd H1 t1 (.tup [])) ka (.tup [.int 0,.ref t1]))=H3 at q2 s3 rd3 nx ndx
          have s0:af H3 (upd (upd H3 dx (.own r)) r (.ins C dx [])):=fun b o e=>by
            rw [ao (ar e nx),ao (ar e ndx)]
            exact e
          refine⟨r,dx,ka,_,rfl,aa,cd.key layc,rd3.same s0 nl,nl,fun m d H4 A4 k4 nm nd=>⟨rfl,?_⟩⟩
          exact⟨r,m,d,ka,_,rfl,A4,cd,s1.free (s3.free (s0.free nm)),s1.free (s3.free (s0.free nd)),s1.free (s3.free nx),fun c o e=>k4 c o (s0 c o (s3 c o e)) (ar (s3 c o e) nx)⟩
        . have h0:¬bo ps 0:=fun z=>h0' ((hhs 0).mpr z)
          refine bh (decide_eq_false h0') ?_
          refine⟨_,rfl,_,ps,xs,6,rfl,hp1,pok,(by omega),hal,fun v ss H2 rv hperm hsort s3'=>⟨ln2,fun ka nka=>fun r dx nx ndx nex=>?_⟩⟩
          have cd:=(show CD (gr ps) (.tuple [.int ((0:Nat):Int),mH ss]) from by unfold gr;rw [if_neg h0];exact⟨_,A1 hperm hsort,rfl⟩)
          have nl:=cd.ic
          have q2:=af.new (o:=.tup [.int 0,v]) nka
          have s3:=s3'.trans q2
          have rd3:aX (upd H2 ka (.tup [.int 0,v])) (.ref ka) (.tuple [.int ((0:Nat):Int),mH ss]):=.tup aa (.cons (.int _) (.cons (rv.same q2 (gI ss)) .nil))
          generalize (upd H2 ka (.tup [.int 0,v]))=H3 at q2 s3 rd3 nx ndx
          have s0:af H3 (upd (upd H3 dx (.own r)) r (.ins C dx [])):=fun b o e=>by
            rw [ao (ar e nx),ao (ar e ndx)]
            exact e
          refine⟨r,dx,ka,_,rfl,aa,cd.key layc,rd3.same s0 nl,nl,fun m d H4 A4 k4 nm nd=>⟨rfl,?_⟩⟩
          exact⟨r,m,d,ka,_,rfl,A4,cd,s1.free (s3.free (s0.free nm)),s1.free (s3.free (s0.free nd)),s1.free (s3.free nx),fun c o e=>k4 c o (s0 c o (s3 c o e)) (ar (s3 c o e) nx)⟩
      rintro σ' H2 ⟨r,m,d,ka,d0,rfl,A2,cd0,nm,nd,nr,s2⟩
      have s12:=s1.trans s2
      have htp2:=s2 _ _ htp
      have cc2:ou [(d0,ka)] [gr ps]:=.cons cd0 .nil
      refine⟨(by show 0<=sizeLine;decide),fun pz npz=>?_⟩
      have npzH:H pz=none:=s12.free npz
      have q3:=af.new (o:=.lst []) npz
      have s3:=s12.trans q3
      have A3:=A2.mv cc2.ic (fun c o h _=>q3 c o h) (fun p zs h=>q3 _ _ h)
      have htp3:=q3 _ _ htp2
      have hz3:(upd H2 pz (.lst [])) pz=some (.lst []):=aa
      have npm:pz≠m:=(ar A2.mem npz).symm
      have npd:pz≠d:=(ar A2.mJ npz).symm
      have npr:pz≠r:=by obtain⟨dx,h⟩:=A2.ob;exact (ar h npz).symm
      generalize (upd H2 pz (.lst []))=H3 at q3 s3 A3 hz3 htp3
      have c0ok:(gr ps).1<ps.length/\cT xs (gr ps).2:=by
        unfold gr
        split
        . exact⟨hn0,cT.zero⟩
        . exact⟨hn0,kN pok⟩
      refine⟨fun fu Gf H'=>∃(ms:List (PyData×Addr)) (cs:List Cp) (outs:List Piece) (zs:List V) (u1 u2 u3 u4 u5 u6:Option V),Gf=[some (.ref pp),some (.int (most:Nat)),some (.ref tp),some (.ref r),some (.ref pz),u1,u2,u3,u4,u5,u6]/\hJ P w C H' r m d ms/\ou ms cs/\fZ ps.length most cs/\(∀c∈cs,c.1<ps.length/\cT xs c.2)/\H' pz=some (.lst zs)/\bu H' zs (outs.map bW)/\cy (bo ps) most ps fu cs outs=bL ps most/\fu+outs.length=most+ps.length/\outs.length<=cs.length/\H' tp=some (.tup (vN hs))/\af H H',⟨most+ps.length,[(d0,ka)],[gr ps],[],[],_,_,_,_,_,_,rfl,A3,cc2,⟨by simp,Gr (Hy _ _) hm1⟩,(fun c hc=>by rw [Gk.mp hc];exact c0ok),hz3,.nil,rfl,rfl,GI _,htp3,s3⟩,?_⟩
      clear A2 A3 hz3 s3 q3 htp3 cc2 cd0 npz htp2 s2
      rintro fu Gf H4 ⟨ms,cs,outs,zs,u1,u2,u3,u4,u5,u6,rfl,A4,cc4,mP,hcs,hz4,rz4,hloop,hfu,hoc,htp4,s4⟩
      obtain⟨dx4,hob4⟩:=A4.ob
      have hzl:zs.length=outs.length:=by have:=rz4.len;rw [Gi] at this;exact this
      have hml:ms.length=cs.length:=by have:=Paired.length cc4;rw [Gi] at this;exact this
      have hml':(ms.map fun p=>V.ref p.2).length=ms.length:=Gi ..
      have hcn:=mP.len fun c hc=>(hcs c hc).1
      refine⟨_,rfl,pz,_,rfl,.inl (aO.of hz4),_,rfl,r,C,dx4,_,_,rfl,hob4,T.cl,T.members,gY,m,_,rfl,.inl (aO.of A4.mem),_,_,rfl,rfl,_,rfl,?_⟩
      refine dh (fun hc=>?_) (fun hc=>?_)
      . have hlt:outs.length<ms.length:=by have:=of_decide_eq_true hc;omega
        obtain⟨fu,rfl⟩:∃f',fu=f' + 1:=⟨fu-1,by omega⟩
        have hmsi:ms[outs.length]?=some ms[outs.length]:=by simp [hlt]
        generalize ms[outs.length]=pm at hmsi
        obtain⟨c,hci,cd⟩:=fO cc4 (i:=outs.length) (x:=pm.1) (by rw [Gz,hmsi];rfl)
        have hcm:=GB hci
        obtain⟨hcl,hct⟩:=hcs c hcm
        have hps:ps[c.1]?=some ps[c.1]:=by simp [hcl]
        generalize ps[c.1]=pce at hps
        rw [kO hci hps] at hloop
        obtain⟨ds,e⟩:=pce
        obtain⟨p',xs',pc,da,ea,ws,ep,e1',el',hx',e2,e3,r3,e4⟩:=fh hp hps
        cases ep
        rw [e1] at e1'
        cases e1'
        have dok:=pok.gU _ (GB hps)
        have eok:=pok.ends _ (GB hps)
        obtain⟨fd,hfd,epm⟩:=id cd
        have rdm:=(A4.keys pm (GB hmsi)).2
        rw [epm] at rdm
        obtain⟨pa,pvs,ere,hpm,rpv⟩:=aX.bP rdm
        cases ere
        obtain⟨y1,t1,rfl,q1,rpv⟩:=rpv.cons_inv
        obtain⟨y2,t2,rfl,q2,rpv⟩:=rpv.cons_inv
        have z:=rpv.nil_inv
        subst z
        rw [q1.int_inv] at hpm
        have fv2:FV H4 y2 c.2:=hfd.fv q2
        refine⟨_,fun σ' H' h=>⟨fu,Hf fu,h⟩,?_⟩
        refine⟨_,rfl,r,C,dx4,_,_,rfl,hob4,T.cl,T.members,gY,_,rfl,pz,_,rfl,.inl (aO.of hz4),m,_,_,_,rfl,rfl,aO.of A4.mem,bS (j:=zs.length) (by rw [hzl,Gz,hmsi];rfl),pm.2,_,rfl,av.of hpm,rfl,_,_,rfl,_,_,rfl,rfl,?_⟩
        refine⟨_,rfl,_,rfl,pp,_,_,_,rfl,rfl,av.of (s4 _ _ e1),bS hx',pc,_,rfl,av.of (s4 _ _ e2),rfl,_,_,rfl,_,_,rfl,rfl,?_⟩
        have bok:=hct.rp dok.2
        refine⟨_,rfl,_,rfl,y2,da,ws,ds,c.2,10,rfl,fv2,s4 _ _ e3,r3.same s4 (cU ds),(fun ss hs nd=>Gr (hct.cX ss hs nd) hx10),(by have:ds.length<=6:=dok.1;omega),fun gv H5 g5 s5=>⟨_,rfl,gv,ea,bD c.2 ds,e,rfl,g5,s5 _ _ (s4 _ _ e4),(fun ss hs nd=>Gr (bok.cX ss hs nd) (by omega)),fun at_ vs2 H6 hat pv s6=>?_⟩⟩
        have lok:=rA bok eok
        obtain⟨hll,hl2⟩:=ju (e:=e) bok
        have s46:=s5.trans s6
        have A6:=A4.mv cc4.ic (fun c o h _=>s46 c o h) (fun p zs h=>s46 _ _ h)
        have hz6:=s46 _ _ hz4
        have htp6:=s46 _ _ htp4
        have hvl:vs2.length=(cB (bD c.2 ds) e).length:=Paired.length pv
        generalize hls:cB (bD c.2 ds) e=ls at hloop lok hll hl2 pv hvl
        refine⟨_,rfl,at_,rfl,⟨_,av.of hat⟩,fun acc na=>?_⟩
        have nam:acc≠m:=(ar A6.mem na).symm
        have nad:acc≠d:=(ar A6.mJ na).symm
        have nar:acc≠r:=by obtain⟨dx,h⟩:=A6.ob;exact (ar h na).symm
        have kb:∀{H':Hp},kJ m d H6 H'->∀p zs,H6 p=some (.tup zs)->H' p=some (.tup zs):=fun b p zs h=>b p _ h (bw h A6.mem (by intro z;cases z)) (bw h A6.mJ (by intro z;cases z))
        refine pQ (K:=K) (a:=at_) (xs:=vs2) (fun i ys Gg H'=>∃(cv:Option V) (ms':List (PyData×Addr)),Gg=[cv,some (.ref r),some (.ref tp),some (.int (most:Nat))]/\hJ P w C H' r m d ms'/\ou ms' (aW (bo ps) most cs (ls.take i)).1/\ys=vN (aW (bo ps) most cs (ls.take i)).2/\H' acc=some (.lst ys)/\kJ m d H6 H') ?_ ?_ ?_ ?_
        . have qn:=af.new (o:=.lst []) na
          exact⟨none,ms,rfl,A6.mv cc4.ic (fun c o h _=>qn c o h) (fun p zs h=>qn _ _ h),cc4,rfl,aa,kJ.of_same qn⟩
        . rintro i ys Gg H7 hi ⟨cv,ms',rfl,A7,cc7,rfl,ha,b7⟩
          refine⟨av.of (kb b7 _ _ hat),ha,bC ?_⟩
          obtain⟨_,_,hlen,_⟩:=fP (tops:=bo ps) (ls:=ls.take i) (ns:=[]) mP hcs fun c hc=>lok c (Ia hc)
          rw [Gi]
          unfold aW
          rw [hlen,G9]
          show 0+_<=_
          omega
        . rintro i y ys Gg H7 hi ⟨cv,ms',rfl,A7,cc7,rfl,ha,b7⟩
          obtain⟨pr,hpr,qa,u,rfl,hq,fvu⟩:=fO pv hi
          obtain⟨k,U⟩:=pr
          obtain⟨hkl,hUok⟩:=lok _ (GB hpr)
          obtain⟨cok7,hcs7,_,_⟩:=fP (tops:=bo ps) (ls:=ls.take i) (ns:=[]) mP hcs fun c hc=>lok c (Ia hc)
          have hcn7:=fZ.len cok7 fun c hc=>(hcs7 c hc).1
          have hml7:ms'.length=(aW (bo ps) most cs (ls.take i)).1.length:=by have:=Paired.length cc7;rw [Gi] at this;exact this
          have hnx:=oq (bo ps) most (cs:=cs) hpr
          have fvu7:=fvu.aK (kb b7)
          obtain⟨fdu,hfdu,ru⟩:=fvu7.fd
          have hq7:=kb b7 _ _ hq
          have cdl:CD (k,U) (.tuple [.int (k:Nat),fdu]):=⟨fdu,hfdu,rfl⟩
          obtain⟨dx7,hob7⟩:=A7.ob
          have htp7:=kb b7 _ _ htp6
          refine bJ ?_
          refine jR ?_
          refine bT ?_
          refine⟨_,rfl,r,dx7,_,rfl,hob7,uy,_,rfl,_,rfl,_,rfl,r,C,dx7,_,_,rfl,hob7,T.cl,T.places,iP,_,rfl,qa,tp,d,most,k,U,_,hs,u,ms',_,bo ps,rfl,hq7,.tup hq7 (.cons (.int _) (.cons ru .nil)),cdl,hUok.lay nok,htp7,hhs,A7.mJ,A7.jE,cc7,fun a d' H8 rd' cd' s8=>?_⟩
          have A8:=A7.mv cc7.ic (fun c o h _=>s8 c o h) (fun p zs h=>s8 _ _ h)
          have hcpok:cT xs (br (bo ps) most (aW (bo ps) most cs (ls.take i)).1 (k,U)).2:=by
            unfold br
            split
            . exact cT.zero
            . split
              . exact hUok
              . exact cT.zero
          refine⟨r,m,d,a,d',ms',rfl,A8,(by rw [hml7];unfold aW;omega),cd'.key (hcpok.lay nok),rd',cd'.ic,cc7.ic,fun H9 A9 b9=>?_⟩
          have ha9:=b9 _ _ (s8 _ _ ha) nam nad
          have cc9:=ou.put (a:=a) cc7 cd'
          have eix:=(cd'.mem cc9).2
          rw [eix]
          refine⟨ha9,_,kL ms' d' a,rfl,?_,?_,?_,aa,fun c' o h c1 c2=>?_⟩
          . refine A9.mv cc9.ic (fun x o h z=>?_) (fun p zs h=>by rw [ao (bw h ha9 (by intro z;cases z))];exact h)
            rw [ao ?_]
            . exact h
            . rcases z with rfl | rfl | rfl
              . exact nar.symm
              . exact nam.symm
              . exact nad.symm
          . rw [hnx];exact cc9
          . rw [hnx]
            show _=((aW (bo ps) most cs (ls.take i)).2++[_]).map _
            rw [GF]
            rfl
          . rw [ao (ar h na)]
            exact b9 c' o (s8 _ _ (b7 c' o h c1 c2)) c1 c2
        rintro ys Gg H7 ⟨cv,ms',rfl,A7,cc7,rfl,ha,b7⟩
        rw [hvl,GR] at cc7 ha
        obtain⟨cok7,hcs7,hlen7,more,emore⟩:=fP (tops:=bo ps) (ls:=ls) (ns:=[]) mP hcs lok
        have hcn7:=fZ.len cok7 fun c hc=>(hcs7 c hc).1
        have s7:af H H7:=fun c o h=>b7 c o (s46 c o (s4 c o h)) (ar h nm) (ar h nd)
        have hz7:H7 pz=some (.lst zs):=b7 _ _ hz6 npm npd
        have hlen7':(aW (bo ps) most cs ls).2.length=ls.length:=by unfold aW;rw [hlen7];show 0+_=_;omega
        refine⟨_,rfl,.inl ⟨rfl,_,aO.of hz7⟩,_,rfl,_,rfl,_,rfl,ea,acc,e,(aW (bo ps) most cs ls).2,rfl,s7 _ _ e4,ha,(by rw [hlen7'];exact hll),(by rw [hlen7'];exact hl2),fun t3 H8 ht3 s8=>⟨ln2,fun t4 nt4=>?_⟩⟩
        have q4:=af.new (o:=.tup [.ref da,.ref t3]) nt4
        have s79:=s8.trans q4
        have ht9:=q4 _ _ ht3
        have h49:(upd H8 t4 (.tup [.ref da,.ref t3])) t4=some (.tup [.ref da,.ref t3]):=aa
        generalize (upd H8 t4 (.tup [.ref da,.ref t3]))=H9 at q4 s79 ht9 h49
        have hz9:=s79 _ _ hz7
        refine⟨pz,_,_,rfl,rfl,hz9,bC (by omega),?_⟩
        have kt:∀p xs,H9 p=some (.tup xs)->(upd H9 pz (.lst (zs++[.ref t4]))) p=some (.tup xs):=fun p xs h=>by rw [ao (bw h hz9 (by intro z;cases z))];exact h
        have s9:=s7.trans s79
        have kt49:∀p xs,H4 p=some (.tup xs)->(upd H9 pz (.lst (zs++[.ref t4]))) p=some (.tup xs):=fun p xs h=>kt _ _ (s79 _ _ (kb b7 _ _ (s46 _ _ h)))
        refine⟨ms',(aW (bo ps) most cs ls).1,outs++[(ds,iu e (aW (bo ps) most cs ls).2)],_,_,_,_,_,_,_,rfl,A7.mv cc7.ic (fun x o h z=>?_) (fun p zs h=>kt _ _ (s79 _ _ h)),cc7,cok7,hcs7,aa,?_,hloop,(by rw [Gq];show fu+(_+1)=_;omega),?_,kt49 _ _ htp4,s9.put npzH⟩
        . rw [ao ?_]
          . exact s79 _ _ h
          . rcases z with rfl | rfl | rfl
            . exact npr.symm
            . exact npm.symm
            . exact npd.symm
        . rw [GF]
          have rd4:aX H9 (.ref t4) (bW (ds,iu e (aW (bo ps) most cs ls).2)):=.tup h49 (.cons (.tup (s9 _ _ e3) (r3.same s9 (cU ds))) (.cons (zk ht9) .nil))
          exact bu.app (rz4.aK kt49 (aS outs)) (rd4.aK kt (eY _))
        . have:(aW (bo ps) most cs ls).1.length=cs.length+more.length:=by unfold aW;rw [emore,Gq]
          rw [this,Gq]
          show _+1<=_
          omega
      . have hnl:¬outs.length<ms.length:=fun z=>hc (decide_eq_true (by omega))
        rw [mO (HA (by omega))] at hloop
        rw [<-hloop] at q
        refine⟨_,rfl,pz,_,rfl,.inl ⟨aO.of hz4,fun t1 n1=>?_⟩⟩
        have q1:=af.new (o:=.tup zs) n1
        refine⟨_,rfl,r,C,dx4,_,_,rfl,q1 _ _ hob4,T.cl,T.members,gY,m,_,rfl,.inl ⟨aO.of (q1 _ _ A4.mem),fun t2 n2=>⟨ln2,fun t3 n3=>?_⟩⟩⟩
        have q2:=af.new (o:=.tup (ms.map fun p=>V.ref p.2)) n2
        have q3:=af.new (o:=.tup [.ref t1,.ref t2]) n3
        have q13:=(q1.trans q2).trans q3
        refine q (.ref t3) (ms.map (·.1)) _ cc4 (.tup aa (.cons (.tup (q3 _ _ (q2 _ _ aa)) (rz4.same q13 (aS outs))) (.cons (.tup (q3 _ _ aa) (wO fun p hp=>(A4.keys p hp).2.same q13 (cc4.ic p hp))) .nil))) (s4.trans q13)
    . obtain⟨p,xs,m,rfl,hp,h6,h10,q⟩:=h
      refine⟨_,(ae (bg (aH iD (aT aU rfl Z.len bV (au (pv 0))) (cG (v:=.int 60) rfl G_MOST_TO_LEAD ⟨_,rfl⟩) (aP _))
      (ah (kR GX.tM GX.gM (au (qy (aT aU rfl Z.len bV (au (pv 0)))))))
      aM)
      (fX.nS (ae (aJ (i:=2) bO.nd (aI O_heads hr (au (pv 0))))
      (ae (dQ (aJ (i:=3) bO.nd (wb O_Row___init__ (hr.mono (by decide)) rfl (au (aB (ay ai (fe (aH jG ai (pv 2) (by with_unfolding_all rfl)) (aB bQ) (aI O_start hr (au (pv 0))))))))))
      (ae (aJ (i:=4) bO.nd (bZ bQ))
      (ae (jd PassesOwn.never (aH gy (aT aU rfl Z.len bV (au (pv 4))) (aT aU rfl Z.len bV (au (fo (pv 3) rfl))) (aP _))
      (ae (dG (aG cg (fo (pv 3) rfl) (aT aU rfl Z.len bV (au (pv 4)))) (cZ rfl (bc (aN (i:=5) bO.nd) (bc (aN (i:=6) bO.nd) cC))))
      (ae (dG (aG bf (pv 0) (pv 5)) (cZ rfl (bc (aN (i:=7) bO.nd) (bc (aN (i:=8) bO.nd) cC))))
      (ae (aJ (i:=9) bO.nd (aI O_leads hr (ay (aI O_behind hr (ay (pv 6) (pv 7))) (pv 8))))
      (ae (il (i:=10) ["lead"] ["copies", "tops", "most"] [3,2,1] rfl bO.nd rfl rfl rfl (er (pv 9)) rfl (by decide +kernel) (by decide +kernel) (by decide +kernel) ⟨⟨rfl,.inl rfl,rfl⟩,⟨⟨rfl,.inl rfl,rfl⟩,⟨⟨rfl,.inl rfl,rfl⟩,True.intro⟩⟩⟩ (fun _ _ _ _=>(aN (i:=0) (show ((["lead"]:List Str)++(["copies", "tops", "most"]:List Str)).Nodup by decide +kernel) (hf:=GQ rfl))) (fun _ _ _ _=>eX) (fun _ _ _ _=>(wa O_Row_place_of (pv 1) (hr.mono (by decide)) (au (aI O_copy_for hr (uV (pv 0) (pv 2) (wN (K:=K) rfl (pv 1) rfl) (pv 3)))))))
      (ah (cf (df PySem.F.plainAttrs_list PySem.F.slot_list_append PySem.F.type_list_append bU (pv 4) (au (aB (ay (pv 7) (aI O_end_to hr (ay (pv 8) (pv 10))))))))))))))
      (ah (aF (aB (ay (bE bF rfl Z.tuple cb (au (pv 4))) (bE bF rfl Z.tuple cb (au (fo (pv 3) rfl))))))))))))),?_⟩
      refine⟨_,rfl,p,_,rfl,.inr (av.of hp),_,_,rfl,rfl,_,rfl,?_⟩
      refine bY (decide_eq_true (by omega)) ?_
      refine⟨⟨_,rfl,p,_,rfl,.inr (av.of hp),_,rfl,(by show ((xs.length:Nat):Int).natAbs<_;omega),fun y hy=>⟨(by show 1<=1000;decide),q⟩⟩⟩
theorem zL {f:Addr} {fd:FuncData} (F:b0 K "needed" "needed" pB f fd) (Z:Bl mg) {tk_MOST_TO_LEAD:Tok} (G_MOST_TO_LEAD:mg "MOST_TO_LEAD" = some (.int 60 tk_MOST_TO_LEAD)) {tk_MOST_NEEDED:Tok} (G_MOST_NEEDED:mg "MOST_NEEDED" = some (.int 300 tk_MOST_NEEDED)) {cP cM cN cR cL cO:Addr} (GX:xT K mg cP cM cN cR cL cO) {C:Addr} (T:oX K C) (OX_led_past:o6 P w K mg base "led_past" 7 ["plan", "most"] (zC (fm P w C) (kU cM))):bA P w K mg base (gu P w) 8 f fd ["plan"] (zC (sP cM) (sQ cM)):=by
 refine F.E3 (k:=7) mX (fun vs H Q E h=>?_) (fun cdv A outer s H vs Q E hr h=>?_)
 ·rcases h with h | h
  ·obtain⟨plv,ps,xs,rfl,_⟩:=h
   rfl
  ·obtain⟨p,xs,rfl,_⟩:=h
   rfl
 ·rcases h with h | h
  ·obtain⟨plv,ps,xs,rfl,hp,pok,nok,hx10,hn0,hn,q,qe⟩:=h
   refine⟨_,(ae (aJ (i:=1) mX.nd (aT aU rfl Z.len bV (au (aG bf (qA OX_led_past wR hr (ay (pv 0) (aY bR (cG (v:=.int 300) rfl G_MOST_NEEDED ⟨_,rfl⟩) ai))) ai))))
   (ae (bg (aH iD (pv 1) (cG (v:=.int 300) rfl G_MOST_NEEDED ⟨_,rfl⟩) (aP _))
   (ah (kR GX.tM GX.gM (au (qy (cG (v:=.int 300) rfl G_MOST_NEEDED ⟨_,rfl⟩)))))
   aM)
   (fX.nS (ah (aF (pv 1)))))),?_⟩
   refine⟨_,rfl,_,_,rfl,rfl,.inl ⟨plv,ps,xs,301,rfl,hp,pok,nok,hx10,hn0,hn,(by decide),(by decide),fun v ds H1 cc r s1=>?_⟩⟩
   obtain⟨lp,lvs,rfl,hlp,rl⟩:=aX.bP r
   obtain⟨ov,t1,rfl,ro,rl⟩:=rl.cons_inv
   obtain⟨cv,t2,rfl,rc,rl⟩:=rl.cons_inv
   have z':=rl.nil_inv
   subst z'
   obtain⟨cp,cvs,rfl,hcp,rcs⟩:=aX.bP rc
   have hcl:cvs.length=(bL ps 301).1.length:=rcs.len.trans cc.length
   refine⟨lp,_,_,_,rfl,rfl,av.of hlp,dA,cp,_,rfl,.inr (av.of hcp),?_⟩
   rw [hcl]
   refine bJ ?_
   refine⟨_,rfl,_,_,rfl,rfl,_,rfl,?_⟩
   by_cases hb:300<(bL ps 301).1.length
   ·refine bY (decide_eq_true (by omega)) ?_
    exact⟨⟨300,rfl,(by decide),fun y hy=>⟨(by show 1<=1000;decide),qe hb _ s1⟩⟩⟩
   ·refine bh (decide_eq_false (by omega)) ?_
    exact⟨_,rfl,q (by omega) _ s1⟩
  ·obtain⟨p,xs,rfl,hp,h6,h10,q⟩:=h
   refine⟨_,(ae (aJ (i:=1) mX.nd (aT aU rfl Z.len bV (au (aG bf (qA OX_led_past wR hr (ay (pv 0) (aY bR (cG (v:=.int 300) rfl G_MOST_NEEDED ⟨_,rfl⟩) ai))) ai))))
   (ae (bg (aH iD (pv 1) (cG (v:=.int 300) rfl G_MOST_NEEDED ⟨_,rfl⟩) (aP _))
   (ah (kR GX.tM GX.gM (au (qy (cG (v:=.int 300) rfl G_MOST_NEEDED ⟨_,rfl⟩)))))
   aM)
   (fX.nS (ah (aF (pv 1)))))),?_⟩
   exact⟨_,rfl,_,_,rfl,rfl,.inr ⟨p,xs,_,rfl,hp,h6,h10,q⟩⟩
theorem ya {f:Addr} {fd:FuncData} (F:b0 K "_law_bag" "_law_bag" mY f fd) (Z:Bl mg)  : bA P w K mg base bX 1 f fd ["script", "k"] (Bx K):=by
 refine F.ok (k:=0) lj (fun vs H Q E h=>?_) (fun cdv A outer s H vs Q E hr h=>?_)
 ·obtain⟨a,ns,k,rfl,_⟩:=h
  rfl
 ·obtain⟨a,ns,k,rfl,hS,hk,q⟩:=h
  refine⟨_,(ae (aJ (i:=2) lj.nd ai)
   (ae (bg (aH gy (pv 1) (aT aU rfl Z.len bV (au (pv 0))) (aP _))
   (ah (aJ (i:=2) lj.nd (aY jg (aG cg (pv 0) (pv 1)) (aY Cd (aY pJ ai ai) (aY pJ ai ai)))))
   aM)
   (ae (bg (aH gy (pv 2) (aY pJ ai ai) (aP _))
   (ah (aF (bZ (ay ai (aY bR ai (aY jg (aY bR (aY gg (pv 2) ai) (aY gg ai (pv 1))) ai))))))
   aM)
   (ah (aF (bZ (ay (pv 2) (aY bR ai (aY jg (aY bR (pv 2) (pv 1)) ai))))))))),?_⟩
  refine⟨_,rfl,_,rfl,_,_,rfl,.inl hS,_,_,rfl,rfl,_,rfl,?_⟩
  refine dh (fun hc=>?_) (fun hc=>?_)
  ·have hl:k<((ns.map V.int).length:Nat):=of_decide_eq_true hc
   obtain⟨v,hv,hm⟩:=xp hk hl
   obtain⟨z,_,rfl⟩:=GL.mp hm
   refine⟨_,rfl,_,rfl,_,_,_,_,rfl,rfl,hS,hv,10,60,rfl,rfl,⟨by decide,by decide,by decide⟩,10,60,rfl,rfl,⟨by decide,by decide,by decide⟩,_,_,rfl,rfl,(by unfold IntMulOk;decide +kernel),_,_,rfl,rfl,(show (0:Int)<10 ^ (60:Int).toNat*10 ^ (60:Int).toNat by decide +kernel),?_⟩
   refine⟨_,rfl,10,18,rfl,rfl,⟨by decide,by decide,by decide⟩,_,_,rfl,rfl,_,rfl,?_⟩
   refine dh (fun hd=>?_) (fun hd=>?_)
   ·refine⟨_,rfl,_,_,rfl,rfl,.inr ⟨by decide,by decide⟩,_,rfl,_,_,rfl,rfl,.inl ⟨by decide,by decide⟩,_,_,rfl,rfl,_,_,rfl,rfl,(show (0:Int)<2147483646 by decide),_,_,rfl,rfl,ln2,fun p hp=>?_⟩
    exact q p _ hp ⟨_,_,aa,by omega,by omega⟩ (af.new hp)
   ·refine⟨_,rfl,_,rfl,_,rfl,_,_,rfl,rfl,_,_,rfl,rfl,(show (0:Int)<2147483646 by decide),_,_,rfl,rfl,ln2,fun p hp=>?_⟩
    exact q p _ hp ⟨_,_,aa,by omega,by omega⟩ (af.new hp)
  ·refine⟨_,rfl,10,18,rfl,rfl,⟨by decide,by decide,by decide⟩,_,_,rfl,rfl,_,rfl,?_⟩
   refine dh (fun hd=>?_) (fun hd=>?_)
   ·refine⟨_,rfl,_,_,rfl,rfl,.inr ⟨by decide,by decide⟩,_,rfl,_,_,rfl,rfl,.inl ⟨by decide,by decide⟩,_,_,rfl,rfl,_,_,rfl,rfl,(show (0:Int)<2147483646 by decide),_,_,rfl,rfl,ln2,fun p hp=>?_⟩
    exact q p _ hp ⟨_,_,aa,by omega,by omega⟩ (af.new hp)
   ·refine⟨_,rfl,_,rfl,_,rfl,_,_,rfl,rfl,_,_,rfl,rfl,(show (0:Int)<2147483646 by decide),_,_,rfl,rfl,ln2,fun p hp=>?_⟩
    exact q p _ hp ⟨_,_,aa,by omega,by omega⟩ (af.new hp)
theorem vy {f:Addr} {fd:FuncData} (F:b0 K "_law_take" "_law_take" lq f fd) (Z:Bl mg)  : bA P w K mg base bX 1 f fd ["bag", "many"] gQ:=by
 refine F.ok (k:=0) oy (fun vs H Q E h=>?_) (fun cdv A outer s H vs Q E hr h=>?_)
 ·obtain⟨b,m,rfl,_⟩:=h
  rfl
 ·obtain⟨b,m,rfl,⟨x,y,hb,h0,h1⟩,hm,q⟩:=h
  refine⟨_,(ae (bg (aH iD (aG cg (pv 0) ai) ai (aP _))
   (ae (aJ (i:=2) oy.nd (aY jg (aG cg (pv 0) ai) (pv 1)))
   (ae (dG (aY Ah (aG cg (pv 0) ai) (pv 1)) (pI (pv 0) ai set_list))
   (ah (aF (pv 2)))))
   aM)
   (ae (dG (aY jg (aY gg (aG cg (pv 0) ai) ai) ai) (pI (pv 0) ai set_list))
   (ah (aF (aY jg (aY vK (aY jg (aY gg (aG cg (pv 0) ai) (aG cg (pv 0) ai)) ai) ai) (pv 1)))))),?_⟩
  refine⟨_,rfl,b,_,0,_,rfl,rfl,aO.of hb,cJ,_,_,rfl,rfl,_,rfl,?_⟩
  refine dh (fun hc=>?_) (fun hc=>?_)
  ·refine⟨_,rfl,b,_,0,_,rfl,rfl,aO.of hb,cJ,_,rfl,_,_,rfl,rfl,hm.1,?_⟩
   refine⟨_,rfl,b,_,0,_,rfl,rfl,aO.of hb,cJ,_,rfl,_,_,rfl,rfl,hm,_,rfl,b,_,0,0,rfl,rfl,hb,rfl,?_⟩
   refine⟨_,rfl,?_⟩
   exact q _ _ (Int.emod_nonneg _ (by have:=hm.1;omega)) (Int.emod_lt_of_pos _ hm.1) ⟨_,_,aa,h0,h1⟩ Fix.Bw
  ·refine⟨_,rfl,b,_,1,_,rfl,rfl,aO.of hb,dA,_,_,rfl,rfl,.inr ⟨by decide,by decide⟩,_,_,rfl,rfl,(show (0:Int)<2147483647 by decide),_,rfl,b,_,1,1,rfl,rfl,hb,rfl,?_⟩
   refine⟨_,rfl,b,_,1,_,rfl,rfl,aO.of aa,dA,_,rfl,b,_,1,_,rfl,rfl,aO.of aa,dA,_,_,rfl,rfl,.inl ⟨by omega,by omega⟩,_,_,rfl,rfl,(show (0:Int)<2147483629 by decide),_,_,rfl,rfl,⟨by decide,by decide⟩,_,rfl,_,_,rfl,rfl,hm.1,?_⟩
   exact q _ _ (Int.emod_nonneg _ (by have:=hm.1;omega)) (Int.emod_lt_of_pos _ hm.1) ⟨_,_,aa,by omega,by omega⟩ Fix.Bw
theorem u7 {f:Addr} {fd:FuncData} (F:b0 K "_law_names" "_law_names" jW f fd) (Z:Bl mg) (O_law_take:Own P w K mg base "_law_take" 1 ["bag", "many"] gQ):bA P w K mg base bX 2 f fd ["bag"] v7:=by
  refine F.ok (k:=1) dU (fun vs H Q E h=>?_) (fun cdv A outer s H vs Q E hr h=>?_)
  . obtain⟨b,rfl,_⟩:=h
    rfl
  . obtain⟨b,rfl,hB,q⟩:=h
    refine⟨_,(ae (aJ (i:=1) dU.nd ba)
      (ae (aJ (i:=2) dU.nd (aY bR ai (aI O_law_take hr (ay (pv 0) ai))))
      (ae (il (i:=3) ["k"] ["letters", "bag"] [1,0] rfl dU.nd rfl rfl rfl (e7 rfl Z.range (au (aY bR ai (aI O_law_take hr (ay (pv 0) ai))))) rfl (by decide +kernel) (by decide +kernel) (by decide +kernel) ⟨⟨rfl,.inl rfl,rfl⟩,⟨⟨rfl,.inl rfl,rfl⟩,True.intro⟩⟩ (fun _ _ _ _=>(aN (i:=0) (show ((["k"]:List Str)++(["letters", "bag"]:List Str)).Nodup by decide +kernel) (hf:=GQ rfl))) (fun _ _ _ _=>eX) (fun _ _ _ _=>(aG pN (pv 1) (aI O_law_take hr (ay (pv 2) ai)))))
      (ae (aJ (i:=4) dU.nd (aI O_law_take hr (ay (pv 0) (aT aU rfl Z.len bV (au (pv 3))))))
      (ae (aJ (i:=5) dU.nd (bZ bQ))
      (ae (cW PassesOwn.never rfl (e7 rfl Z.range (au (pv 2))) (aN (i:=6) dU.nd)
      (ae (aJ (i:=7) dU.nd (bE lZ rfl Z.list vW (au (pv 3))))
      (ae (dG (aG pN (pv 1) (aI O_law_take hr (ay (pv 0) ai))) (pI (pv 7) (pv 4) set_list))
      (ah (bg (aH lY (df PySem.F.plainAttrs_str PySem.F.slot_str_join PySem.F.type_str_join v5 ba (au (pv 7))) (pv 5) (by with_unfolding_all rfl))
      (ah (cf (df PySem.F.plainAttrs_list PySem.F.slot_list_append PySem.F.type_list_append bU (pv 5) (au (df PySem.F.plainAttrs_str PySem.F.slot_str_join PySem.F.type_str_join v5 ba (au (pv 7)))))))
      aM)))))
      (ah (aF (pv 5))))))))),?_⟩
    refine⟨_,rfl,b,4,rfl,hB,⟨by decide,by decide +kernel⟩,fun m H1 m0 m1 B1 X1=>⟨_,_,rfl,rfl,?_⟩⟩
    refine⟨_,rfl,b,8,rfl,B1,⟨by decide,by decide +kernel⟩,fun k H2 k0 k1 B2 X2=>⟨_,_,rfl,rfl,_,rfl,(by omega),(by omega),fun acc na=>?_⟩⟩
    refine oH (lo:=0) (fun i ys Gg H'=>∃(v:Option V) (cs:List Nat),Gg=[v,some (.str pR),some (.ref b)]/\ys=(cs.map one).map V.str/\cs.length=i/\(∀c∈cs,97<=c/\c<=122)/\H' acc=some (.lst ys)/\cH H' b/\Fix b H2 H') ?_ ?_ ?_ ?_
    . exact⟨none,[],rfl,rfl,rfl,(fun _ h=>nomatch h),aa,B2.new na,Fix.new na⟩
    . rintro i ys Gg H' hi ⟨v,cs,rfl,rfl,hl,_,ha,_⟩
      refine⟨ha,?_⟩
      rw [Gi,Gi]
      exact bC (by omega)
    . rintro i ys Gg H' hi ⟨v,cs,rfl,rfl,hl,hc,ha,B',X'⟩
      refine bJ ?_
      refine jR ?_
      refine bT ?_
      refine⟨_,rfl,_,rfl,b,26,rfl,B',⟨by decide,by decide +kernel⟩,fun r H3 r0 r1 B3 X3=>?_⟩
      obtain⟨c,hat,c0,c1⟩:=yJ r0 r1
      have hab:acc≠b:=B2.gh na
      have ha3:=X3 acc _ ha hab
      refine⟨pR,r,c,rfl,rfl,v9,hat,ha3,_,cs++[c],rfl,?_,?_,?_,aa,?_,?_⟩
      . rw [GF,GF];rfl
      . rw [Gq,hl];rfl
      . intro d hd
        rcases Gw.mp hd with hd | hd
        . exact hc d hd
        . rw [Gk.mp hd];exact⟨c0,c1⟩
      . obtain⟨x,y,e,z⟩:=B3
        exact⟨x,y,by rw [ao hab.symm];exact e,z⟩
      . intro d o hd nd
        rw [ao (ar hd na)]
        exact (X'.trans X3) d o hd nd
    . rintro ys Gg H3 ⟨v,cs,rfl,rfl,hl,hc,ha,B3,X3⟩
      have hab:acc≠b:=B2.gh na
      have hl1:1<=cs.length:=by omega
      have hl8:cs.length<=8:=by omega
      have F3:Fix b H H3:=(X1.trans X2).trans X3
      have el:(((cs.map one).map V.str).length:Int)=cs.length:=by simp
      refine⟨_,rfl,_,rfl,acc,_,rfl,.inl (aO.of ha),b,_,rfl,B3,⟨by omega,ke (by omega) (by omega)⟩,fun at_ H4 t0 t1 B4 X4=>?_⟩
      refine⟨(by show 0<=sizeLine;decide),fun nl nn=>?_⟩
      have hnb:nl≠b:=B4.gh nn
      have ha4:H4 acc=some (.lst ((cs.map one).map V.str)):=X4 acc _ ha hab
      have hna:nl≠acc:=fun z=>by rw [z,ha4] at nn;cases nn
      have F4:Fix b H H4:=F3.trans X4
      refine⟨_,rfl,_,rfl,(by omega),(by omega),iK (lo:=0) (fun i Gf H'=>∃(u1 u2:Option V) (xs:List Str),Gf=[some (.ref b),some (.str pR),some (.int (1+m)),some (.ref acc),some (.int at_),some (.ref nl),u1,u2] /\
        H' nl=some (.lst (xs.map V.str))/\xs.length<=i/\(0<i->xs≠[])/\(∀x∈xs,dH x)/\H' acc=some (.lst ((cs.map one).map V.str))/\cH H' b/\Fix b H H') ?_ ?_ ?_⟩
      . exact⟨_,_,[],rfl,aa,Gj _,(fun h=>absurd h (G1 _)),(fun _ h=>nomatch h),(by rw [ao hna.symm];exact ha4),B4.new nn,F4.trans (Fix.new nn)⟩
      . rintro i Gf H' hi ⟨u1,u2,xs,rfl,hn,hx,hx0,aL,ha',B',X'⟩
        refine⟨_,rfl,acc,_,rfl,.inl (aO.of ha'),fun nm mm=>?_⟩
        have nmb:nm≠b:=B'.gh mm
        have nma:nm≠acc:=fun z=>by rw [z,ha'] at mm;cases mm
        have nmn:nm≠nl:=fun z=>by rw [z,hn] at mm;cases mm
        refine⟨_,rfl,_,rfl,b,26,rfl,B'.new mm,⟨by decide,by decide +kernel⟩,fun r H5 r0 r1 B5 X5=>?_⟩
        obtain⟨c,hat,c0,c1⟩:=yJ r0 r1
        have h5:H5 nm=some (.lst ((cs.map one).map V.str)):=X5 nm _ aa nmb
        have hn5:H5 nl=some (.lst (xs.map V.str)):=X5 nl _ (by rw [ao nmn.symm];exact hn) hnb
        have ha5:H5 acc=some (.lst ((cs.map one).map V.str)):=X5 acc _ (by rw [ao nma.symm];exact ha') hab
        obtain⟨j,rfl⟩:∃j:Nat,at_=j:=⟨at_.toNat,by omega⟩
        have hj:j<cs.length:=by omega
        have hix:pM ((cs.map one).map V.str).length (j:Int)=some j:=by
          unfold pM
          rw [if_pos (by omega),if_pos (by rw [el];omega)]
          simp
        refine⟨pR,r,c,rfl,rfl,v9,hat,_,rfl,_,rfl,nm,_,(j:Int),j,rfl,rfl,h5,hix,?_⟩
        have eset:((cs.map one).map V.str).set j (.str ⟨#[c]⟩)=((cs.set j c).map one).map V.str:=by
          rw [List.map_set,List.map_set];rfl
        rw [eset]
        have hc':∀d∈cs.set j c,97<=d/\d<=122:=fun d hd=>by
          rcases List.mem_or_eq_of_mem_set hd with hd | hd
          . exact hc d hd
          . rw [hd];exact⟨c0,c1⟩
        have hjl:(((cs.set j c).map one).map (·.length)).sum+((cs.set j c).map one).length*(Str.ofString "").length<=16777216:=by
          have e1:(Str.ofString "").length=0:=by decide +kernel
          have e2:∀l:List Nat,((l.map one).map (·.length)).sum=l.length:=by
            intro l
            induction l with
            | nil=>rfl
            | cons a l ih=>simp only [GK,List.sum_cons,ih,G0];show 1+l.length=_;omega
          rw [e1,e2,Im]
          omega
        have nk:dH (Txt.join (Str.ofString "") ((cs.set j c).map one)):=by
          rw [Ai]
          have ej:=L2.join_ones (cs.set j c)
          have eL:(Txt.join Str.empty ((cs.set j c).map one)).length=(cs.set j c).length:=by
            have:=congrArg Hb ej
            rw [G7] at this
            exact this
          refine⟨?_,?_,?_⟩
          . rw [eL,Im];exact hl1
          . rw [eL,Im];exact hl8
          . rw [ej];exact hc'
        have n6:upd H5 nm (.lst (((cs.set j c).map one).map V.str)) nl=some (.lst (xs.map V.str)):=by rw [ao nmn.symm];exact hn5
        have a6:upd H5 nm (.lst (((cs.set j c).map one).map V.str)) acc=some (.lst ((cs.map one).map V.str)):=by rw [ao nma.symm];exact ha5
        have B6:cH (upd H5 nm (.lst (((cs.set j c).map one).map V.str))) b:=by
          obtain⟨x,y,e,z⟩:=B5
          exact⟨x,y,by rw [ao nmb.symm];exact e,z⟩
        have F6:Fix b H (upd H5 nm (.lst (((cs.set j c).map one).map V.str))):=fun d o hd nd=>by
          have h1:=X' d o hd nd
          have nd':d≠nm:=fun z=>by rw [z,mm] at h1;cases h1
          rw [ao nd']
          exact X5 d o (by rw [ao nd'];exact h1) nd
        have flat:(xs.map V.str).all iE=true:=by
          rw [IB]
          intro v hv
          obtain⟨x,_,rfl⟩:=GL.mp hv
          rfl
        refine⟨rfl,_,rfl,_,nm,_,rfl,rfl,aO.of aa,hjl,_,rfl,nl,_,rfl,.inl (aO.of n6),rfl,flat,_,rfl,?_⟩
        refine dh (fun hin=>?_) (fun hin=>?_)
        . refine⟨_,rfl,.inl ⟨rfl,_,aO.of n6⟩,rfl,_,rfl,_,nm,_,rfl,rfl,aO.of aa,hjl,nl,_,_,rfl,rfl,n6,?_,?_⟩
          . rw [Gi]
            have:i<4:=by omega
            exact bC (by omega)
          . refine⟨_,_,xs++[_],rfl,(by rw [aa,GF];rfl),(by rw [Gq];exact Nat.succ_le_succ hx),(fun _=>by simp),?_,(by rw [ao hna.symm];exact a6),?_,?_⟩
            . intro x hxm
              rcases Gw.mp hxm with hxm | hxm
              . exact aL x hxm
              . rw [Gk.mp hxm];exact nk
            . obtain⟨x,y,e,z⟩:=B6
              exact⟨x,y,by rw [ao hnb.symm];exact e,z⟩
            . intro d o hd nd
              have h1:=F6 d o hd nd
              have nd':d≠nl:=fun z=>by
                have h2:=F4 d o hd nd
                rw [z,nn] at h2
                cases h2
              rw [ao nd']
              exact h1
        . have hx':xs≠[]:=by
            intro e
            subst e
            exact hin rfl
          exact⟨_,_,xs,rfl,n6,IE hx,fun _=>hx',aL,a6,B6,F6⟩
      . rintro Gf H' ⟨u1,u2,xs,rfl,hn,hx,hx0,aL,ha',B',X'⟩
        refine⟨_,rfl,?_⟩
        have hm:(1+m).toNat<=4:=by omega
        have hm0:0<(1+m).toNat:=by omega
        exact q nl xs H' ⟨hn,hnb,hx0 hm0,by omega,aL⟩ (Gr hx hm) B' X'
theorem tm {f:Addr} {fd:FuncData} (F:b0 K "_law_number" "_law_number" jy f fd) (Z:Bl mg) (O_law_take:Own P w K mg base "_law_take" 1 ["bag", "many"] gQ):bA P w K mg base bX 2 f fd ["bag"] oJ:=by
 refine F.ok (k:=1) sZ (fun vs H Q E h=>?_) (fun cdv A outer s H vs Q E hr h=>?_)
 ·obtain⟨b,rfl,_⟩:=h
  rfl
 ·obtain⟨b,rfl,hB,q⟩:=h
  refine⟨_,(ae (bg (aH cx (aI O_law_take hr (ay (pv 0) ai)) ai (aP _))
   (ah (aF (aY gg (aY fI (aY fI (aY pJ ai ai) ai) (aI O_law_take hr (ay (pv 0) ai))) (aY fI ai (aY gg ai (aI O_law_take hr (ay (pv 0) ai)))))))
   aM)
   (ah (aF (aY fI (aI O_law_take hr (ay (pv 0) ai)) ai)))),?_⟩
  refine⟨_,rfl,b,8,rfl,hB,⟨by decide,by decide +kernel⟩,fun r H1 r0 r1 B1 X1=>⟨rfl,_,rfl,?_⟩⟩
  refine dh (fun hc=>?_) (fun hc=>?_)
  ·refine⟨10,40,rfl,rfl,⟨by decide,by decide,by decide⟩,_,_,rfl,rfl,?_⟩
   refine⟨_,rfl,b,3,rfl,B1,⟨by decide,by decide +kernel⟩,fun r2 H2 r20 r21 B2 X2=>⟨_,_,rfl,rfl,?_⟩⟩
   refine⟨_,rfl,b,2,rfl,B2,⟨by decide,by decide +kernel⟩,fun r3 H3 r30 r31 B3 X3=>?_⟩
   refine⟨_,_,rfl,rfl,.inl ⟨by decide,by decide⟩,_,_,rfl,rfl,_,_,rfl,rfl,.inr ⟨by omega,by omega⟩,?_⟩
   refine q _ H3 ?_ B3 ((X1.trans X2).trans X3)
   have e:(10:Int) ^ (40:Int).toNat=10 ^ 40:=by decide +kernel
   rw [e]
   obtain rfl | rfl:r3=0\/r3=1:=by omega
   ·rw [show (1:Int)-2*0=1 by decide,Int.mul_one];unfold kA;omega
   ·rw [show (1:Int)-2*1 = -1 by decide,Int.mul_neg,Int.mul_one];unfold kA;omega
  ·refine⟨_,rfl,b,8,rfl,B1,⟨by decide,by decide +kernel⟩,fun r2 H2 r20 r21 B2 X2=>⟨_,_,rfl,rfl,?_⟩⟩
   exact q _ H2 (by unfold kA;omega) B2 (X1.trans X2)
theorem vz {f:Addr} {fd:FuncData} (F:b0 K "_law_deed" "_law_deed" lr f fd) (Z:Bl mg) (O_law_take:Own P w K mg base "_law_take" 1 ["bag", "many"] gQ) (O_law_number:Own P w K mg base "_law_number" 2 ["bag"] oJ):bA P w K mg base bX 3 f fd ["bag", "names"] yG:=by
 refine F.ok (k:=2) jX (fun vs H Q E h=>?_) (fun cdv A outer s H vs Q E hr h=>?_)
 ·obtain⟨b,l,xs,rfl,_⟩:=h
  rfl
 ·obtain⟨b,l,xs,rfl,hB,hN,q⟩:=h
  refine⟨_,(ae (aJ (i:=2) jX.nd (aG cg (bZ (bH ba (bH ba (bH ba (bH ba (bH ba (bH ba (bH ba bQ)))))))) (aI O_law_take hr (ay (pv 0) ai))))
   (ae (aJ (i:=3) jX.nd (aG cg (pv 1) (aI O_law_take hr (ay (pv 0) (aT aU rfl Z.len bV (au (pv 1)))))))
   (ae (bg (aH cx (pv 2) ba (aP _))
   (ah (aF (aB (gc (pv 2) (pv 3) (aG cg (pv 1) (aI O_law_take hr (ay (pv 0) (aT aU rfl Z.len bV (au (pv 1))))))))))
   aM)
   (ae (bg (PW.pt (ku (aH cx (pv 2) ba (aP _)) (j6 (aH cx (pv 2) ba (aP _)))))
   (ah (aF (aB (gc (pv 2) (pv 3) (aI O_law_number hr (au (pv 0)))))))
   aM)
   (ah (aF (aB (ay (pv 2) (pv 3))))))))),?_⟩
  refine⟨FW,fun l0 m0=>?_⟩
  refine⟨_,rfl,b,7,rfl,hB.new m0,⟨by decide,by decide +kernel⟩,fun r H1 r0 r1 B1 X1=>?_⟩
  have h0:H1 l0=some (.lst [.str "put",.str "copy",.str "add",.str "read",.str "tell",.str "tell",.str "add"]):=X1 l0 _ aa (hB.gh m0)
  have F1:Fix b H H1:=(Fix.new m0).trans X1
  have N1:=hN.fix F1
  have hw:∃w:Str,(w = "put" \/ w = "copy" \/ w = "add" \/ w = "read" \/ w = "tell")/\fq [V.str "put",.str "copy",.str "add",.str "read",.str "tell",.str "tell",.str "add"] r=some (V.str w):=by
   obtain rfl | rfl | rfl | rfl | rfl | rfl | rfl:r=0\/r=1\/r=2\/r=3\/r=4\/r=5\/r=6:=by omega
   ·exact⟨_,.inl rfl,bS (j:=0) rfl⟩
   ·exact⟨_,.inr (.inl rfl),bS (j:=1) rfl⟩
   ·exact⟨_,.inr (.inr (.inl rfl)),bS (j:=2) rfl⟩
   ·exact⟨_,.inr (.inr (.inr (.inl rfl))),bS (j:=3) rfl⟩
   ·exact⟨_,.inr (.inr (.inr (.inr rfl))),bS (j:=4) rfl⟩
   ·exact⟨_,.inr (.inr (.inr (.inr rfl))),bS (j:=5) rfl⟩
   ·exact⟨_,.inr (.inr (.inl rfl)),bS (j:=6) rfl⟩
  obtain⟨w,hw,hat⟩:=hw
  refine⟨l0,_,r,_,rfl,rfl,aO.of h0,hat,?_⟩
  obtain⟨p0,p1⟩:=N1.pos
  refine⟨_,rfl,_,rfl,_,rfl,l,_,rfl,.inl (aO.of N1.at_),b,_,rfl,B1,⟨p0,ke p0 p1⟩,fun r2 H2 r20 r21 B2 X2=>?_⟩
  have N2:=N1.fix X2
  obtain⟨x,hx,hxm⟩:=oM r20 r21
  refine⟨l,_,r2,_,rfl,rfl,aO.of N2.at_,hx,?_⟩
  refine⟨_,rfl,rfl,_,rfl,?_⟩
  rcases hw with rfl | rfl | rfl | rfl | rfl
  ·
   rw [show decide (V.str "put" = V.str "copy")=false by decide +kernel]
   refine bN ⟨_,rfl,rfl,_,rfl,?_⟩
   rw [show decide (V.str "put" = V.str "put")=true by decide +kernel]
   refine bT (bT ⟨_,rfl,_,rfl,_,rfl,b,rfl,B2,fun n H3 nk B3 X3=>⟨vX,fun t mt=>?_⟩⟩)
   exact q _ (.put x n) _ (.tup aa (.cons (.str _) (.cons (.str _) (.cons (.int _) .nil)))) ⟨hxm,nk⟩ (B3.new mt) (((F1.trans X2).trans X3).trans (Fix.new mt))
  ·
   rw [show decide (V.str "copy" = V.str "copy")=true by decide +kernel]
   obtain⟨p0,p1⟩:=N2.pos
   refine bT ⟨_,rfl,_,rfl,_,rfl,_,rfl,_,rfl,l,_,rfl,.inl (aO.of N2.at_),b,_,rfl,B2,⟨p0,ke p0 p1⟩,fun r3 H3 r30 r31 B3 X3=>?_⟩
   have N3:=N2.fix X3
   obtain⟨y,hy,hym⟩:=oM r30 r31
   refine⟨l,_,r3,_,rfl,rfl,aO.of N3.at_,hy,vX,fun t mt=>?_⟩
   exact q _ (.copy x y) _ (.tup aa (.cons (.str _) (.cons (.str _) (.cons (.str _) .nil)))) ⟨hxm,hym⟩ (B3.new mt) (((F1.trans X2).trans X3).trans (Fix.new mt))
  ·
   rw [show decide (V.str "add" = V.str "copy")=false by decide +kernel]
   refine bN ⟨_,rfl,rfl,_,rfl,?_⟩
   rw [show decide (V.str "add" = V.str "put")=false by decide +kernel]
   refine bN ⟨_,rfl,rfl,_,rfl,?_⟩
   rw [show decide (V.str "add" = V.str "add")=true by decide +kernel]
   refine bT ⟨_,rfl,_,rfl,_,rfl,b,rfl,B2,fun n H3 nk B3 X3=>⟨vX,fun t mt=>?_⟩⟩
   exact q _ (.add x n) _ (.tup aa (.cons (.str _) (.cons (.str _) (.cons (.int _) .nil)))) ⟨hxm,nk⟩ (B3.new mt) (((F1.trans X2).trans X3).trans (Fix.new mt))
  ·
   rw [show decide (V.str "read" = V.str "copy")=false by decide +kernel]
   refine bN ⟨_,rfl,rfl,_,rfl,?_⟩
   rw [show decide (V.str "read" = V.str "put")=false by decide +kernel]
   refine bN ⟨_,rfl,rfl,_,rfl,?_⟩
   rw [show decide (V.str "read" = V.str "add")=false by decide +kernel]
   refine bN ⟨_,rfl,_,rfl,ln2,fun t mt=>?_⟩
   exact q _ (.read x) _ (.tup aa (.cons (.str _) (.cons (.str _) .nil))) hxm (B2.new mt) ((F1.trans X2).trans (Fix.new mt))
  ·
   rw [show decide (V.str "tell" = V.str "copy")=false by decide +kernel]
   refine bN ⟨_,rfl,rfl,_,rfl,?_⟩
   rw [show decide (V.str "tell" = V.str "put")=false by decide +kernel]
   refine bN ⟨_,rfl,rfl,_,rfl,?_⟩
   rw [show decide (V.str "tell" = V.str "add")=false by decide +kernel]
   refine bN ⟨_,rfl,_,rfl,ln2,fun t mt=>?_⟩
   exact q _ (.tell x) _ (.tup aa (.cons (.str _) (.cons (.str _) .nil))) hxm (B2.new mt) ((F1.trans X2).trans (Fix.new mt))
theorem yb {f:Addr} {fd:FuncData} (F:b0 K "_law_end" "_law_end" mZ f fd) (Z:Bl mg) (O_law_take:Own P w K mg base "_law_take" 1 ["bag", "many"] gQ) (O_law_number:Own P w K mg base "_law_number" 2 ["bag"] oJ):bA P w K mg base bX 3 f fd ["bag", "names", "count"] yH:=by
 refine F.ok (k:=2) i9 (fun vs H Q E h=>?_) (fun cdv A outer s H vs Q E hr h=>?_)
 ·obtain⟨b,l,xs,c,rfl,_⟩:=h
  rfl
 ·obtain⟨b,l,xs,c,rfl,hB,hN,c0,c1,q⟩:=h
  refine⟨_,(ae (aJ (i:=3) i9.nd (aI O_law_take hr (ay (pv 0) ai)))
   (ae (bg (aH cx (pv 3) ai (aP _))
   (ah (aF (aB (au ba))))
   aM)
   (ae (bg (aH gy (pv 3) ai (aP _))
   (ah (aF (aB (ay ba (aI O_law_take hr (ay (pv 0) (pv 2)))))))
   aM)
   (ae (aJ (i:=4) i9.nd (aG cg (bZ (ay ba ba)) (aY vK (aI O_law_take hr (ay (pv 0) ai)) ai)))
   (ae (aJ (i:=5) i9.nd (aG cg (pv 1) (aI O_law_take hr (ay (pv 0) (aT aU rfl Z.len bV (au (pv 1)))))))
   (ah (aF (aB (bH (pv 4) (bH (pv 5) (bH (aI O_law_number hr (au (pv 0))) (bH (aI O_law_take hr (ay (pv 0) (pv 2))) (bH (aI O_law_take hr (ay (pv 0) (pv 2))) bQ))))))))))))),?_⟩
  have ck:(0:Int)<(c:Int)/\(c:Int).natAbs.log2<9000:=⟨by omega,ke (by omega) (by omega)⟩
  refine⟨_,rfl,b,9,rfl,hB,⟨by decide,by decide +kernel⟩,fun r H1 r0 r1 B1 X1=>?_⟩
  refine⟨_,rfl,rfl,_,rfl,?_⟩
  refine dh (fun hc=>?_) (fun hc=>?_)
  ·refine⟨tV,fun t mt=>?_⟩
   exact q _ .stop _ (.tup aa (.cons (.str _) .nil)) True.intro (B1.new mt) (X1.trans (Fix.new mt))
  refine⟨_,rfl,_,_,rfl,rfl,_,rfl,?_⟩
  refine dh (fun hd=>?_) (fun hd=>?_)
  ·refine⟨_,rfl,_,rfl,b,_,rfl,B1,ck,fun p H2 p0 p1 B2 X2=>⟨ln2,fun t mt=>?_⟩⟩
   obtain⟨k,rfl⟩:∃k:Nat,p=k:=⟨p.toNat,by omega⟩
   exact q _ (.go k) _ (.tup aa (.cons (.str _) (.cons (.int _) .nil))) (show k<c by omega) (B2.new mt) ((X1.trans X2).trans (Fix.new mt))
  ·refine⟨ln2,fun l0 m0=>?_⟩
   refine⟨_,rfl,b,3,rfl,B1.new m0,⟨by decide,by decide +kernel⟩,fun z H2 z0 z1 B2 X2=>⟨_,_,rfl,rfl,⟨by decide,by decide⟩,?_⟩⟩
   have h0:H2 l0=some (.lst [.str "less",.str "is"]):=X2 l0 _ aa (B1.gh m0)
   have hw:∃w:Bool,fq [V.str "less",V.str "is"] (z / 2)=some (V.str (wT w)):=by
    obtain h | h:z / 2=0\/z / 2=1:=by omega
    ·rw [h];exact⟨true,cJ⟩
    ·rw [h];exact⟨false,dA⟩
   obtain⟨w,hat⟩:=hw
   refine⟨l0,_,_,_,rfl,rfl,aO.of h0,hat,?_⟩
   have F2:Fix b H H2:=(X1.trans (Fix.new m0)).trans X2
   have N2:=hN.fix F2
   obtain⟨p0,p1⟩:=N2.pos
   refine⟨_,rfl,_,rfl,_,rfl,l,_,rfl,.inl (aO.of N2.at_),b,_,rfl,B2,⟨p0,ke p0 p1⟩,fun r3 H3 r30 r31 B3 X3=>?_⟩
   have N3:=N2.fix X3
   obtain⟨x,hx,hxm⟩:=oM r30 r31
   refine⟨l,_,r3,_,rfl,rfl,aO.of N3.at_,hx,?_⟩
   refine⟨_,rfl,_,rfl,_,rfl,b,rfl,B3,fun n H4 nk B4 X4=>?_⟩
   refine⟨_,rfl,_,rfl,b,_,rfl,B4,ck,fun p H5 p0 p1 B5 X5=>?_⟩
   refine⟨_,rfl,_,rfl,b,_,rfl,B5,ck,fun p' H6 p0' p1' B6 X6=>⟨FU,fun t mt=>?_⟩⟩
   obtain⟨k,rfl⟩:∃k:Nat,p=k:=⟨p.toNat,by omega⟩
   obtain⟨k',rfl⟩:∃k:Nat,p' = k:=⟨p'.toNat,by omega⟩
   exact q _ (.cF w x n k k') _ (.tup aa (.cons (.str _) (.cons (.str _) (.cons (.int _) (.cons (.int _) (.cons (.int _) .nil)))))) ⟨hxm,nk,by omega,by omega⟩ (B6.new mt) ((((F2.trans X3).trans X4).trans (X5.trans X6)).trans (Fix.new mt))
theorem vA {f:Addr} {fd:FuncData} (F:b0 K "_law_plan" "_law_plan" lu f fd) (Z:Bl mg) (O_law_take:Own P w K mg base "_law_take" 1 ["bag", "many"] gQ) (O_law_names:Own P w K mg base "_law_names" 2 ["bag"] v7) (O_law_deed:Own P w K mg base "_law_deed" 3 ["bag", "names"] yG) (O_law_end:Own P w K mg base "_law_end" 3 ["bag", "names", "count"] yH):bA P w K mg base bX 4 f fd ["bag", "count", "most"] yI:=by
  refine F.ok (k:=3) fE (fun vs H Q E h=>?_) (fun cdv A outer s H vs Q E hr h=>?_)
  . obtain⟨b,c,m,rfl,_⟩:=h
    rfl
  . obtain⟨b,c,m,rfl,hB,c0,c1,hm,q⟩:=h
    refine⟨_,(ae (aJ (i:=3) fE.nd (aI O_law_names hr (au (pv 0))))
      (ae (aJ (i:=4) fE.nd (bZ bQ))
      (ae (cW PassesOwn.never rfl (e7 rfl Z.range (au (pv 1))) (aN (i:=5) fE.nd)
      (ae (aJ (i:=6) fE.nd (aI O_law_take hr (ay (pv 0) (aY bR (pv 2) ai))))
      (ae (aJ (i:=7) fE.nd (aI O_law_end hr (gc (pv 0) (pv 3) (pv 1))))
      (ah (cf (df PySem.F.plainAttrs_list PySem.F.slot_list_append PySem.F.type_list_append bU (pv 4) (au (aB (ay (bE bF rfl Z.tuple cb (au (fJ ["j"] ["bag", "names"] [0,3] rfl (e7 rfl Z.range (au (pv 6))) rfl (by decide +kernel) (by decide +kernel) (by decide +kernel) ⟨⟨rfl,.inl rfl,rfl⟩,⟨⟨rfl,.inl rfl,rfl⟩,True.intro⟩⟩ (fun _ _ _ _=>(aN (i:=0) (show ((["j"]:List Str)++(["bag", "names"]:List Str)).Nodup by decide +kernel) (hf:=GQ rfl))) (fun _ _ _ _=>eX) (fun _ _ _ _=>(aI O_law_deed hr (ay (pv 1) (pv 2))))))) (pv 7))))))))))
      (ah (aF (bE bF rfl Z.tuple cb (au (pv 4)))))))),?_⟩
    refine⟨_,rfl,b,rfl,hB,fun l xs H1 N1 x4 B1 X1=>?_⟩
    refine⟨(by show 0<=sizeLine;decide),fun pl pn=>?_⟩
    have hpb:pl≠b:=B1.gh pn
    refine⟨_,rfl,_,rfl,(by omega),(by omega),iK (lo:=0) (fun i Gf H'=>∃(u1 u2 u3:Option V) (ps:List Piece) (vs:List V),Gf=[some (.ref b),some (.int c),some (.int m),some (.ref l),some (.ref pl),u1,u2,u3] /\
      H' pl=some (.lst vs)/\bu H' vs (ps.map bW)/\ps.length=i/\(∀p∈ps,(p.1.length<=m/\∀d∈p.1,ft xs d)/\i7 xs c p.2)/\fV H' b l xs/\cH H' b/\Fix b H H'/\(∀d o,H1 d=some o->d≠b->H' d=some o)) ?_ ?_ ?_⟩
    . exact⟨_,_,_,[],[],rfl,aa,.nil,rfl,(fun _ h=>nomatch h),N1.fix (Fix.new pn),B1.new pn,X1.trans (Fix.new pn),Fix.new pn⟩
    . rintro i Gf H' hi ⟨u1,u2,u3,ps,vs,rfl,hp,hr,hl,aL,N',B',X',Y'⟩
      refine⟨_,rfl,_,rfl,_,_,rfl,rfl,b,_,rfl,B',⟨by omega,ke (by omega) (by omega)⟩,fun k H2 k0 k1 B2 X2=>?_⟩
      have N2:=N'.fix X2
      refine⟨_,rfl,_,rfl,_,rfl,b,l,xs,c,rfl,B2,N2,c0,(by omega),fun ev e H3 re ek B3 X3=>?_⟩
      have N3:=N2.fix X3
      have hp3:H3 pl=some (.lst vs):=(X2.trans X3) pl _ hp hpb
      have hr3:bu H3 vs (ps.map bW):=hr.fix B' (X2.trans X3) (aS ps)
      refine⟨_,rfl,.inl ⟨rfl,_,aO.of hp3⟩,_,rfl,_,rfl,(by omega),(by omega),fun acc na=>?_⟩
      have hab:acc≠b:=B3.gh na
      refine oH (lo:=0) (fun i ys Gg H'=>∃(v:Option V) (ds:List di),Gg=[v,some (.ref b),some (.ref l)]/\bu H' ys (ds.map dB)/\ds.length=i/\(∀d∈ds,ft xs d)/\H' acc=some (.lst ys)/\cH H' b/\Fix b H3 H') ?_ ?_ ?_ ?_
      . exact⟨none,[],rfl,.nil,rfl,(fun _ h=>nomatch h),aa,B3.new na,Fix.new na⟩
      . rintro i' ys Gg H4 hi' ⟨v,ds,rfl,rds,hl',_,ha,_⟩
        refine⟨ha,?_⟩
        rw [rds.len,Gi]
        exact bC (by omega)
      . rintro i' ys Gg H4 hi' ⟨v,ds,rfl,rds,hl',hdk,ha,B4,X4⟩
        refine bJ ?_
        refine jR ?_
        refine bT ?_
        refine⟨_,rfl,_,rfl,b,l,xs,rfl,B4,N3.fix X4,fun dv d H5 rd dk B5 X5=>?_⟩
        have ha5:=X5 acc _ ha hab
        refine⟨ha5,_,ds++[d],rfl,?_,(by rw [Gq,hl'];rfl),?_,aa,?_,?_⟩
        . rw [GF]
          refine bu.app ((rds.fix B4 X5 (cU ds)).put ha5 (cU ds)) ?_
          exact rd.aK (fun p zs e=>by rw [ao (bw e ha5 (by intro z;cases z))];exact e) (nX d)
        . intro d' hd
          rcases Gw.mp hd with hd | hd
          . exact hdk d' hd
          . rw [Gk.mp hd];exact dk
        . obtain⟨x,y,e,z⟩:=B5
          exact⟨x,y,by rw [ao hab.symm];exact e,z⟩
        . intro d' o hd nd
          rw [ao (ar hd na)]
          exact (X4.trans X5) d' o hd nd
      . rintro ys Gg H4 ⟨v,ds,rfl,rds,hl',hdk,ha,B4,X4⟩
        refine⟨acc,ys,rfl,.inl ⟨aO.of ha,fun tp tn=>?_⟩⟩
        refine⟨_,rfl,ln2,fun pc pcn=>?_⟩
        have S6:af H4 (upd (upd H4 tp (.tup ys)) pc (.tup [.ref tp,ev])):=(af.new tn).trans (af.new pcn)
        have hp6:(upd (upd H4 tp (.tup ys)) pc (.tup [.ref tp,ev])) pl=some (.lst vs):=S6 _ _ (X4 pl _ hp3 hpb)
        refine⟨pl,_,_,rfl,rfl,hp6,?_,?_⟩
        . rw [hr.len,Gi,hl]
          exact bC (by omega)
        have hpiece:aX (upd (upd H4 tp (.tup ys)) pc (.tup [.ref tp,ev])) (.ref pc) (bW (ds,e)):=by
          refine .tup aa (.cons (.tup (af.new pcn _ _ aa) (rds.same S6 (cU ds))) (.cons ?_ .nil))
          exact (re.fix B3 X4 (kB e)).same S6 (kB e)
        have F6:Fix b H (upd (upd H4 tp (.tup ys)) pc (.tup [.ref tp,ev])):=((X'.trans (X2.trans X3)).trans X4).trans (Fix.of_same S6)
        have plH:∀d o,H1 d=some o->d≠b->d≠pl:=fun d o hd nd z=>by rw [z,pn] at hd;cases hd
        refine⟨_,_,_,ps++[(ds,e)],vs++[.ref pc],rfl,aa,?_,(by rw [Gq,hl];rfl),?_,?_,?_,?_,?_⟩
        . rw [GF]
          refine bu.app (((hr3.fix B3 X4 (aS ps)).same S6 (aS ps)).put hp6 (aS ps)) ?_
          exact hpiece.aK (fun p zs e=>by rw [ao (bw e hp6 (by intro z;cases z))];exact e) (eY (ds,e))
        . intro p hpm
          rcases Gw.mp hpm with hpm | hpm
          . exact aL p hpm
          . rw [Gk.mp hpm]
            exact⟨⟨by show ds.length<=m;omega,hdk⟩,ek⟩
        . have hll:l≠pl:=fun z=>by
            have:=N1.at_
            rw [z,pn] at this
            cases this
          have N6:=(N3.fix X4).fix (Fix.of_same (b:=b) S6)
          exact⟨by rw [ao hll];exact N6.at_,N6.ne,N6.xr,N6.cX,N6.ok⟩
        . obtain⟨x,y,e',z⟩:=B4.same S6
          exact⟨x,y,by rw [ao hpb.symm];exact e',z⟩
        . intro d o hd nd
          have h1:=X1 d o hd nd
          rw [ao (plH d o h1 nd)]
          exact F6 d o hd nd
        . intro d o hd nd
          rw [ao (plH d o hd nd)]
          exact S6 d o (X4 d o ((X2.trans X3) d o (Y' d o hd nd) nd) nd)
    . rintro Gf H' ⟨u1,u2,u3,ps,vs,rfl,hp,hr,hl,aL,N',B',X',Y'⟩
      have hl':ps.length=c:=by rw [hl];omega
      refine⟨_,rfl,pl,_,rfl,.inl ⟨aO.of hp,fun tp tn=>?_⟩⟩
      refine q (.ref tp) xs ps _ (.tup aa (hr.same (af.new tn) (aS ps))) hl' ⟨fun p hpm=>(aL p hpm).1,fun p hpm=>?_⟩ ⟨N'.ok,x4⟩ (B'.new tn) (X'.trans (Fix.new tn))
      rw [hl']
      exact (aL p hpm).2
theorem pD {f:Addr} {fd:FuncData} (F:b0 K "_law_all_names" "_law_all_names" h9 f fd) (Z:Bl mg)  : bA P w K mg base bX 1 f fd ["plan"] zu:=by
 refine F.ok (k:=0) eB (fun vs H Q E h=>?_) (fun cdv A outer s H vs Q E hr h=>?_)
 ·obtain⟨plv,ps,xs,m,rfl,_⟩:=h
  rfl
 ·obtain⟨plv,ps,xs,m,rfl,hp,pok,hx64,q⟩:=h
  refine⟨_,(ae (aJ (i:=1) eB.nd iq)
   (ae (cW PassesOwn.never rfl (er (pv 0)) (cZ rfl (bc (aN (i:=2) eB.nd) (bc (aN (i:=3) eB.nd) cC)))
   (ae (cW PassesOwn.never rfl (er (pv 2)) (aN (i:=4) eB.nd)
   (ae (fC (dM hr) (pv 1) (aG bf (pv 4) ai) fc rfl)
   (ah (bg (aH cx (aG bf (pv 4) ai) ba (aP _))
   (ah (fC (dM hr) (pv 1) (aG bf (pv 4) ai) fc rfl))
   aM))))
   (ah (bg (aH cx (aT aU rfl Z.len bV (au (pv 3))) ai (aP _))
   (ah (fC (dM hr) (pv 1) (aG bf (pv 3) ai) fc rfl))
   aM))))
   (ah (aF (aT (jo rfl) rfl Z.sorted fb (au (pv 1))))))),?_⟩
  obtain⟨pp,vs,rfl,e1,r⟩:=aX.bP hp
  have hl:=r.len
  refine fun nm nn=>?_
  have s0:=af.new (o:=.dK []) nn
  have kl:∀(i:Nat) (ds:List di) (kvs:List (Key×V)) (ns:List Str),(∀x∈ns,x∈xs)->KeysAre kvs ns->kvs.length<sizeLine:=fun i ds kvs ns hn h=>by
   have:=AZ hn
   rw [h.len]
   exact bC (by omega)
  refine⟨_,rfl,pp,rfl,⟨_,av.of (s0 _ _ e1)⟩,fB (K:=K) (a:=pp) (xs:=vs) (fun i Gf H'=>∃(kvs:List (Key×V)) (u1 u2 u3:Option V),Gf=[some (.ref pp),some (.ref nm),u1,u2,u3]/\H' nm=some (.dK kvs)/\KeysAre kvs (bp (ps.take i))/\af H H') ?_ ?_ ?_ ?_⟩
  ·exact⟨[],_,_,_,rfl,aa,rfl,s0⟩
  ·rintro i Gf H1 hi ⟨kvs,u1,u2,u3,rfl,h1,k1,s1⟩
   exact av.of (s1 _ _ e1)
  ·rintro i x Gf H1 hi ⟨kvs,u1,u2,u3,rfl,h1,k1,s1⟩
   have hlt:i<ps.length:=by
    have:=(GH.mp hi).1
    rw [hl,Gi] at this
    exact this
   have hpi:ps[i]?=some ps[i]:=by simp [hlt]
   generalize ps[i]=pe at hpi
   obtain⟨ds,e⟩:=pe
   have hnext:=jL (f:=pNames) hpi
   have hin:∀x∈bp (ps.take (i+1)),x∈xs:=fun x hx=>by
    refine mw pok x ?_
    obtain⟨p,hp',hx'⟩:=HE.mp hx
    exact HE.mpr ⟨p,Ia hp',hx'⟩
   have hin':∀y,y∈bp (ps.take i)\/y∈ds.flatMap cw\/y∈gm e->y∈xs:=fun y hy=>by
    refine hin y ?_
    unfold bp at hy ⊢
    rw [hnext,Gw]
    unfold pNames at hy ⊢
    rcases hy with h | h
    ·exact .inl h
    ·exact .inr (Gw.mpr h)
   obtain⟨p',xs',pc,da,ea,ws,ep,e1',el',hx',e2,e3,r3,e4⟩:=fh hp hpi
   cases ep
   rw [e1] at e1'
   cases e1'
   rw [hi] at hx'
   cases hx'
   refine⟨pc,_,rfl,av.of (s1 _ _ e2),rfl,_,_,rfl,_,_,rfl,rfl,?_⟩
   refine⟨_,rfl,da,rfl,⟨_,av.of (s1 _ _ e3)⟩,fB (K:=K) (a:=da) (xs:=ws) (fun j Gf H'=>∃(kvs:List (Key×V)) (u3:Option V),Gf=[some (.ref pp),some (.ref nm),some (.ref da),some (.ref ea),u3]/\H' nm=some (.dK kvs)/\KeysAre kvs (bp (ps.take i)++(ds.take j).flatMap cw)/\af H H') ?_ ?_ ?_ ?_⟩
   ·exact⟨kvs,_,rfl,h1,by simpa using k1,s1⟩
   ·rintro j Gf H2 hj ⟨kvs2,u3',rfl,h2,k2,s2⟩
    exact av.of (s2 _ _ e3)
   ·rintro j y Gf H2 hj ⟨kvs2,u3',rfl,h2,k2,s2⟩
    have hjl:j<ds.length:=by
     have:=(GH.mp hj).1
     rw [r3.len,Gi] at this
     exact this
    have hdj:ds[j]?=some ds[j]:=by simp [hjl]
    generalize ds[j]=dd at hdj
    obtain⟨v,hv,rd⟩:=r3.get (i:=j) (d:=dB dd) (by rw [Gz,hdj];rfl)
    rw [hj] at hv
    cases hv
    obtain⟨dp,rfl,hdp⟩:=gH rd
    have hdp2:=s2 _ _ hdp
    have ndp:dp≠nm:=bw hdp2 h2 (by intro z;cases z)
    have hnj:=jL (f:=cw) hdj
    have hinj:∀y∈bp (ps.take i)++(ds.take j).flatMap cw,y∈xs:=fun y hy=>by
     rcases Gw.mp hy with h | h
     ·exact hin' y (.inl h)
     ·obtain⟨d',hd',h'⟩:=HE.mp h
      exact hin' y (.inr (.inl (HE.mpr ⟨d',Ia hd',h'⟩)))
    have hmd:∀y∈cw dd,y∈xs:=fun y hy=>hin' y (.inr (.inl (HE.mpr ⟨dd,GB hdj,hy⟩)))
    have e1d:∃tl,cw dd=fi dd::tl:=by cases dd <;> exact⟨_,rfl⟩
    refine bJ ?_
    refine⟨_,rfl,_,rfl,dp,_,1,_,rfl,rfl,av.of hdp2,ue dd,nm,_,rfl,gW.k (k:=Sum.inr (fi dd)) h2 (kl i ds _ _ hinj k2),?_⟩
    have k3:=k2.put (fi dd) (.bl true)
    have h3:(upd H2 nm (.dK (putK kvs2 (Sum.inr (fi dd)) (.bl true)))) nm=some (.dK (putK kvs2 (Sum.inr (fi dd)) (.bl true))):=aa
    have hdp3:(upd H2 nm (.dK (putK kvs2 (Sum.inr (fi dd)) (.bl true)))) dp=some (.tup (ni dd)):=by rw [ao ndp];exact hdp2
    have s3:af H (upd H2 nm (.dK (putK kvs2 (Sum.inr (fi dd)) (.bl true)))):=s2.put nn
    generalize (upd H2 nm (.dK (putK kvs2 (Sum.inr (fi dd)) (.bl true))))=H3 at h3 hdp3 s3
    refine⟨_,rfl,dp,_,0,_,rfl,rfl,av.of hdp3,(by cases dd <;> exact cJ:fq (ni dd) 0=some (V.str (wD dd))),rfl,_,rfl,?_⟩
    have one:cw dd=[fi dd]->KeysAre (putK kvs2 (Sum.inr (fi dd)) (.bl true)) (bp (ps.take i)++(ds.take (j+1)).flatMap cw):=fun e=>by
     rw [hnj,e,<-GY];exact k3
    cases dd with
    | put a n=>exact bh (show decide (V.str "put" = V.str "copy")=false by decide +kernel) ⟨_,_,rfl,h3,one rfl,s3⟩
    | add a n=>exact bh (show decide (V.str "add" = V.str "copy")=false by decide +kernel) ⟨_,_,rfl,h3,one rfl,s3⟩
    | read a=>exact bh (show decide (V.str "read" = V.str "copy")=false by decide +kernel) ⟨_,_,rfl,h3,one rfl,s3⟩
    | tell a=>exact bh (show decide (V.str "tell" = V.str "copy")=false by decide +kernel) ⟨_,_,rfl,h3,one rfl,s3⟩
    | copy a c =>
     refine bY (show decide (V.str "copy" = V.str "copy")=true by decide +kernel) ?_
     have hin3:∀y∈(bp (ps.take i)++(ds.take j).flatMap cw)++[a],y∈xs:=fun y hy=>by
      rcases Gw.mp hy with h | h
      ·exact hinj y h
      ·rw [Gk.mp h];exact hmd a (Gx ..)
     refine⟨_,rfl,_,rfl,dp,_,2,_,rfl,rfl,av.of hdp3,at2,nm,_,rfl,gW.k (k:=Sum.inr c) h3 (kl i ds _ _ hin3 k3),?_⟩
     refine⟨_,_,rfl,aa,?_,s3.put nn⟩
     rw [hnj,show cw (.copy a c)=[a]++[c] from rfl,<-GY,<-GY]
     exact k3.put c (.bl true)
   ·rintro Gf H2 ⟨kvs2,u3',rfl,h2,k2,s2⟩
    rw [show ws.length=ds.length by rw [r3.len,Gi],GR] at k2
    have e42:=s2 _ _ e4
    refine⟨_,rfl,ea,_,rfl,.inr (av.of e42),rfl,_,rfl,?_⟩
    have none_:gm e=[]->KeysAre kvs2 (bp (ps.take (i+1))):=fun z=>by
     unfold bp at k2 ⊢
     rw [hnext]
     simp only [pNames,z,Hm]
     exact k2
    cases e with
    | stop =>
     refine bh (show decide (V.int ((1:Nat):Int)=V.int 5)=false by decide +kernel) ?_
     exact⟨kvs2,_,_,_,rfl,h2,none_ rfl,s2⟩
    | go q1 =>
     refine bh (show decide (V.int ((2:Nat):Int)=V.int 5)=false by decide +kernel) ?_
     exact⟨kvs2,_,_,_,rfl,h2,none_ rfl,s2⟩
    | cF b x n q1 q2 =>
     refine bY (show decide (V.int ((5:Nat):Int)=V.int 5)=true by decide +kernel) ?_
     have hine:∀y∈bp (ps.take i)++ds.flatMap cw,y∈xs:=fun y hy=>by
      rcases Gw.mp hy with h | h
      ·exact hin' y (.inl h)
      ·exact hin' y (.inr (.inl h))
     refine⟨_,rfl,_,rfl,ea,_,1,_,rfl,rfl,av.of e42,dA,nm,_,rfl,gW.k (k:=Sum.inr x) h2 (kl i ds _ _ hine k2),?_⟩
     refine⟨_,_,_,_,rfl,aa,?_,s2.put nn⟩
     have k3:=k2.put x (.bl true)
     unfold bp at k3 ⊢
     rw [hnext]
     simp only [pNames,gm]
     rw [<-GY]
     exact k3
  ·rintro Gf H1 ⟨kvs,u1,u2,u3,rfl,h1,k1,s1⟩
   rw [show vs.length=ps.length by rw [hl,Gi],GR] at k1
   have hf:=oU pok
   refine⟨_,rfl,nm,kvs,LS.cI (bp ps),rfl,h1,k1,(by omega),fun l ss hperm hs hn=>?_⟩
   exact q l ss _ aa hperm hs (by rw [hperm.length_eq];omega) (s1.trans (af.new hn))
theorem vB {f:Addr} {fd:FuncData} (F:b0 K "_law_part" "_law_part" lB f fd) (Z:Bl mg)  : bA P w K mg base bX 1 f fd ["stretch", "word", "number", "side"] wJ:=by
 refine F.ok (k:=0) eU (fun vs H Q E h=>?_) (fun cdv A outer s H vs Q E hr h=>?_)
 ·obtain⟨p,b,n,side,lo,hi,rfl,_⟩:=h
  rfl
 ·obtain⟨p,b,n,side,lo,hi,rfl,hp,le,q⟩:=h
  refine⟨_,(ae (dG (pv 0) (cZ rfl (bc (aN (i:=4) eU.nd) (bc (aN (i:=5) eU.nd) cC))))
   (ae (dQ (bg (aH cx (pv 1) ba (aP _))
   (ah (bg (gf (pv 3))
   (ah (aJ (i:=5) eU.nd (aG cg (bZ (ay (pv 5) (aY fI (pv 2) ai))) (bE jF rfl Z.int ma (au (tD (pG (gd (pv 5))) (j7 (gG w9 (pv 5) (pv 2) (aP _)))))))))
   (ah (aJ (i:=4) eU.nd (aG cg (bZ (ay (pv 4) (pv 2))) (bE jF rfl Z.int ma (au (tD (pG (gd (pv 4))) (j7 (gG gy (pv 4) (pv 2) (aP _)))))))))))
   (ah (bg (gf (pv 3))
   (ae (bg (PW.pt (ku (PW.pt (iI (d6 (fz (pv 4))) (ie (aH gy (pv 2) (pv 4) (aP _))))) (j6 (PW.pt (iI (d6 (fz (pv 5))) (ie (aH iD (pv 2) (pv 5) (aP _))))))))
   (ah (aF cE))
   aM)
   (ah (aF (aB (ay (pv 2) (pv 2))))))
   (ae (bg (aH cx (pv 4) (pv 2) (aP _))
   (ah (aJ (i:=4) eU.nd (aY bR (pv 2) ai)))
   aM)
   (ah (bg (aH cx (pv 5) (pv 2) (aP _))
   (ah (aJ (i:=5) eU.nd (aY fI (pv 2) ai)))
   aM)))))))
   (ae (bg (PW.pt (iI (d6 (fz (pv 4))) (iI (d6 (fz (pv 5))) (ie (aH iD (pv 4) (pv 5) (aP _))))))
   (ah (aF cE))
   aM)
   (ah (aF (aB (ay (pv 4) (pv 5)))))))),?_⟩
  refine⟨_,rfl,p,_,rfl,av.of hp,rfl,_,_,rfl,_,_,rfl,rfl,?_⟩
  refine⟨fun σ' H'=>∃lo' hi':Option Int,σ' = [some (.ref p),some (.str (wT b)),some (.int n),some (.bl side),some (vO lo'),some (vO hi')]/\oZ lo' hi' = dP (wT b) lo hi n side/\af H H',?_,?_⟩
  ·refine⟨_,rfl,rfl,_,rfl,?_⟩
   cases b with
   | true =>
    have ew:(wT true:Str) = "less" := rfl
    refine bY (show decide (V.str (wT true)=V.str "less")=true by decide +kernel) ?_
    refine⟨_,rfl,_,rfl,?_⟩
    cases side with
    | true =>
     have ep:∀hi',some (iS hi n)=hi'->oZ lo hi' = dP (wT true) lo hi n true:=fun hi' e=>by
      rw [<-e,zt];simp only [dP,ew,if_pos,kF]
     refine bT ?_
     refine⟨_,rfl,_,rfl,_,_,rfl,rfl,ln2,fun l hl=>?_⟩
     cases hi with
     | none =>
      refine⟨_,rfl,_,rfl,bT (.inr ⟨_,rfl,?_⟩)⟩
      exact⟨l,_,_,_,rfl,rfl,aO.of aa,dA,lo,some (n-1),rfl,ep _ rfl,af.new hl⟩
     | some h =>
      refine⟨_,rfl,_,rfl,bN ⟨_,rfl,_,rfl,_,_,rfl,rfl,.inr ⟨_,rfl,?_⟩⟩⟩
      have key:∀bb:Bool,fq [vO (some h),V.int (n-1)] (if bb=true then 1 else 0)=some (vO (if bb=true then some (n-1) else some h)):=fun bb=>by
       cases bb
       ·exact cJ
       ·exact dA
      refine⟨l,_,_,_,rfl,rfl,aO.of aa,key _,lo,_,rfl,ep _ ?_,af.new hl⟩
      simp only [iS]
      by_cases hc:n<=h
      ·rw [if_pos (by omega),if_pos (decide_eq_true hc)]
      ·rw [if_neg (by omega),if_neg (fun z=>hc (of_decide_eq_true z))]
    | false =>
     have ep:∀lo',some (iT lo n)=lo'->oZ lo' hi=dP (wT true) lo hi n false:=fun lo' e=>by
      rw [<-e,AY];simp only [dP,ew,if_pos,kF,Hh,if_false]
     refine bN ?_
     refine⟨_,rfl,_,rfl,ln2,fun l hl=>?_⟩
     cases lo with
     | none =>
      refine⟨_,rfl,_,rfl,bT (.inr ⟨_,rfl,?_⟩)⟩
      exact⟨l,_,_,_,rfl,rfl,aO.of aa,dA,some n,hi,rfl,ep _ rfl,af.new hl⟩
     | some a =>
      refine⟨_,rfl,_,rfl,bN ⟨_,rfl,_,rfl,_,_,rfl,rfl,.inr ⟨_,rfl,?_⟩⟩⟩
      have key:∀bb:Bool,fq [vO (some a),V.int n] (if bb=true then 1 else 0)=some (vO (if bb=true then some n else some a)):=fun bb=>by
       cases bb
       ·exact cJ
       ·exact dA
      refine⟨l,_,_,_,rfl,rfl,aO.of aa,key _,_,hi,rfl,ep _ ?_,af.new hl⟩
      simp only [iT]
      by_cases hc:a<n
      ·rw [if_pos (by omega),if_pos (decide_eq_true hc)]
      ·rw [if_neg (by omega),if_neg (fun z=>hc (of_decide_eq_true z))]
   | false =>
    have ew:¬(wT false:Str) = "less" := by decide +kernel
    refine bh (show decide (V.str (wT false)=V.str "less")=false by decide +kernel) ?_
    refine⟨_,rfl,_,rfl,?_⟩
    cases side with
    | true =>
     refine bT ?_
     have eq_:dP (wT false) lo hi n true=lM lo hi n:=by simp only [dP,if_neg ew,uc,if_true]
     rw [eq_] at q
     have yes:eV n lo hi=true->∀t,RV (upd H t (.tup [.int n,.int n])) (.ref t) (lM lo hi n):=fun h t=>by
      unfold lM;rw [if_pos h];exact⟨t,rfl,aa⟩
     have no:eV n lo hi=false->RV H .aZ (lM lo hi n):=fun h=>by
      unfold lM;rw [if_neg (by rw [h];decide)];rfl
     have fin:eV n lo hi=true->_:=fun h=>(show C9 (Dl (fU (qL 2) (fU (qL 2) oE))) ⟨fun _ _=>False,Q,fun _ _=>False,fun _ _=>False⟩ [some (.ref p),some (.str (wT false)),some (.int n),some (.bl true),some (vO lo),some (vO hi)] H from ⟨_,rfl,_,rfl,ln2,fun t nt=>q _ _ (yes h t) (af.new nt)⟩)
     cases lo with
     | none =>
      cases hi with
      | none =>
       refine⟨_,rfl,_,rfl,bN ⟨_,rfl,_,rfl,bN (bN ?_)⟩⟩
       exact⟨_,rfl,_,rfl,ln2,fun t nt=>q _ _ (yes rfl t) (af.new nt)⟩
      | some h =>
       refine⟨_,rfl,_,rfl,bN ⟨_,rfl,_,rfl,bT ⟨_,rfl,_,rfl,_,_,rfl,rfl,_,rfl,?_⟩⟩⟩
       refine dh (fun hc=>?_) (fun hc=>?_)
       ·refine q _ _ (no ?_) (af.refl H)
        have:h<n:=of_decide_eq_true hc
        simp [eV];omega
       ·refine⟨_,rfl,_,rfl,ln2,fun t nt=>q _ _ (yes ?_ t) (af.new nt)⟩
        have:¬h<n:=fun z=>hc (decide_eq_true z)
        simp [eV];omega
     | some a =>
      refine⟨_,rfl,_,rfl,bT ⟨_,rfl,_,rfl,_,_,rfl,rfl,_,rfl,?_⟩⟩
      refine dh (fun hc=>?_) (fun hc=>?_)
      ·refine q _ _ (no ?_) (af.refl H)
       have:n<a:=of_decide_eq_true hc
       cases hi <;> simp [eV] <;> omega
      ·have hna:¬n<a:=fun z=>hc (decide_eq_true z)
       cases hi with
       | none =>
        refine⟨_,rfl,_,rfl,bN (bN ?_)⟩
        refine⟨_,rfl,_,rfl,ln2,fun t nt=>q _ _ (yes ?_ t) (af.new nt)⟩
        simp [eV];omega
       | some h =>
        refine⟨_,rfl,_,rfl,bT ⟨_,rfl,_,rfl,_,_,rfl,rfl,_,rfl,?_⟩⟩
        refine dh (fun hc=>?_) (fun hc=>?_)
        ·refine q _ _ (no ?_) (af.refl H)
         have:h<n:=of_decide_eq_true hc
         simp [eV];omega
        ·refine⟨_,rfl,_,rfl,ln2,fun t nt=>q _ _ (yes ?_ t) (af.new nt)⟩
         have:¬h<n:=fun z=>hc (decide_eq_true z)
         simp [eV];omega
    | false =>
     refine bN ?_
     have ep:oZ (if lo=some n then some (n+1) else lo) (if hi=some n then some (n-1) else hi)=dP (wT false) lo hi n false:=by
      rw [CF le];simp only [dP,if_neg ew,uc,Hh,if_false]
     refine⟨_,rfl,_,rfl,iO,_,rfl,?_⟩
     rw [jI]
     refine dh (fun hc=>?_) (fun hc=>?_)
     ·have h1:lo=some n:=of_decide_eq_true hc
      rw [if_pos h1] at ep
      refine⟨_,rfl,_,_,rfl,rfl,?_⟩
      refine⟨_,rfl,_,rfl,iO,_,rfl,?_⟩
      rw [jI]
      refine dh (fun hd=>?_) (fun hd=>?_)
      ·rw [if_pos (of_decide_eq_true hd)] at ep
       exact⟨_,rfl,_,_,rfl,rfl,_,_,rfl,ep,af.refl H⟩
      ·rw [if_neg (fun z=>hd (decide_eq_true z))] at ep
       exact⟨_,_,rfl,ep,af.refl H⟩
     ·rw [if_neg (fun z=>hc (decide_eq_true z))] at ep
      refine⟨_,rfl,_,rfl,iO,_,rfl,?_⟩
      rw [jI]
      refine dh (fun hd=>?_) (fun hd=>?_)
      ·rw [if_pos (of_decide_eq_true hd)] at ep
       exact⟨_,rfl,_,_,rfl,rfl,_,_,rfl,ep,af.refl H⟩
      ·rw [if_neg (fun z=>hd (decide_eq_true z))] at ep
       exact⟨_,_,rfl,ep,af.refl H⟩
  rintro σ' H1 ⟨lo',hi',rfl,ec,s1⟩
  rw [<-ec] at q
  cases lo' with
  | none =>
   refine⟨_,rfl,_,rfl,bN (bN ?_)⟩
   exact⟨_,rfl,_,rfl,ln2,fun t nt=>q _ _ (by cases hi' <;> exact⟨t,rfl,aa⟩) (s1.trans (af.new nt))⟩
  | some a =>
   cases hi' with
   | none =>
    refine⟨_,rfl,_,rfl,bT ⟨_,rfl,_,rfl,bN (bN ?_)⟩⟩
    exact⟨_,rfl,_,rfl,ln2,fun t nt=>q _ _ ⟨t,rfl,aa⟩ (s1.trans (af.new nt))⟩
   | some h =>
    refine⟨_,rfl,_,rfl,bT ⟨_,rfl,_,rfl,bT ⟨_,rfl,_,rfl,_,_,rfl,rfl,_,rfl,?_⟩⟩⟩
    refine dh (fun hc=>?_) (fun hc=>?_)
    ·have:h<a:=of_decide_eq_true hc
     exact q _ _ (by show RV H1 .aZ (if h<a then none else _);rw [if_pos this];rfl) s1
    ·have:¬h<a:=fun z=>hc (decide_eq_true z)
     exact⟨_,rfl,_,rfl,ln2,fun t nt=>q _ _ (by show RV _ (.ref t) (if h<a then none else _);rw [if_neg this];exact⟨t,rfl,aa⟩) (s1.trans (af.new nt))⟩
theorem vC {f:Addr} {fd:FuncData} (F:b0 K "_law_with" "_law_with" lC f fd) (Z:Bl mg)  : bA P w K mg base bX 1 f fd ["facts", "name", "stretch"] rm:=by
 refine F.ok (k:=0) jY (fun vs H Q E h=>?_) (fun cdv A outer s H vs Q E hr h=>?_)
 ·obtain⟨d,T,m,x,sv,s,rfl,_⟩:=h
  rfl
 ·obtain⟨d,T,m,x,sv,s,rfl,lt,hm,sh,q⟩:=h
  refine⟨_,(ae (aJ (i:=3) jY.nd iq)
   (ae (dQ (CB PassesOwn.never rfl (pv 0) (aN (i:=4) jY.nd)
   (ah (fC (dM hr) (pv 3) (pv 4) (nh (dM hr) (pv 0) (pv 4) (fun _ _=>rfl)) rfl))))
   (ae (dQ (cf (Ap (pv 3) (pv 1) cE ⟨rfl,rfl,rfl,rfl⟩)))
   (ae (bg (aH (yF hr.units) (pv 2) (aB (ay cE cE)) (aP _))
   (ah (fC (dM hr) (pv 3) (pv 1) (pv 2) rfl))
   aM)
   (ah (aF (pv 3))))))),?_⟩
  obtain⟨kvs,ks,hd,tb,cl,hl⟩:=lt
  have kl:kvs.length=ks.length:=by have:=congrArg Hb tb.keys;simpa using this
  have ndk:(kvs.map (·.1)).Nodup:=by
   rw [tb.keys]
   exact Hx.map _ (fun a b n z=>n (Sum.inr.inj z)) tb.nd
  refine fun md nmd=>?_
  have ndm:d≠md:=ar hd nmd
  refine⟨fun σ' H'=>∃u:Option V,σ' = [some (.ref d),some (.str x),some sv,some (.ref md),u]/\H' md=some (.dK kvs)/\af H H',?_,?_⟩
  ·refine⟨_,rfl,d,kvs,rfl,(by rw [ao ndm];exact hd),fun ob=>⟨fun j Gg H2=>∃u:Option V,Gg=[some (.ref d),some (.str x),some sv,some (.ref md),u]/\H2 d=some (.d5 ob (.dK kvs))/\H2 md=some (.dK (kvs.take j))/\∀c o,H c=some o->c≠d->H2 c=some o,?_,?_,?_,?_⟩⟩
   ·refine⟨none,rfl,aa,by rw [ao ndm.symm,aa];rfl,fun c o e n=>?_⟩
    rw [ao n,ao (ar e nmd)]
    exact e
   ·rintro j Gg H2 ⟨u,_,h,_⟩
    exact h
   ·rintro j k v Gg H2 hj ⟨u,rfl,h1,h2,h3⟩
    have hj':j<kvs.length:=(GH.mp hj).1
    refine bJ ?_
    have dg:eu H2 d (kV k) (some v):=.inl ⟨kvs,k,.inr ⟨ob,h1⟩,rfl,(Aw ndk (GB hj)).symm⟩
    refine⟨_,rfl,_,rfl,d,v,rfl,dg,_,rfl,_,rfl,md,_,rfl,gW.k (k:=k) h2 (bC (by rw [G9];omega)),?_⟩
    refine⟨_,rfl,by rw [ao ndm];exact h1,by rw [aa,zp ndk hj],fun c o e n=>?_⟩
    rw [ao (ar e nmd)]
    exact h3 c o e n
   ·rintro Gg H2 ⟨u,rfl,h1,h2,h3⟩
    refine⟨u,rfl,by rw [ao ndm.symm,h2,GR],fun c o e=>?_⟩
    by_cases z:c=d
    ·subst z
     rw [hd] at e
     cases e
     exact aa
    ·rw [ao z]
     exact h3 c o e z
  rintro σ' H1 ⟨u,rfl,hmd,s1⟩
  have tb1:Tb 0 H1 kvs ks T:=tb.aK fun p xs e=>s1 _ _ e
  have sh1:SH H1 sv s:=sh.aK fun p xs e=>s1 _ _ e
  refine⟨fun σ' H2=>∃(kvs2:List (Key×V)) (ks2:List Str),σ' = [some (.ref d),some (.str x),some sv,some (.ref md),u]/\H2 md=some (.dK kvs2)/\Tb 0 H2 kvs2 ks2 (cS T x cQ)/\(∀y∈ks2,cS T x cQ y≠cQ)/\ks2.length<=m/\af H H2,
   ⟨_,rfl,md,rfl,.inl ⟨kvs,.inl hmd⟩,_,rfl,kvs,Sum.inr x,hmd,rfl,fun v ev=>?_,fun ev=>?_⟩,?_⟩
  ·refine⟨_,_,rfl,aa,(tb1.drop x).aK (fun p xs e=>by rw [ao (bw e hmd (by intro z;cases z))];exact e),fun y hy=>?_,Gr (Hy _ _) hl,s1.put nmd⟩
   obtain⟨h1,h2⟩:=Hj.mp hy
   have hne:y≠x:=of_decide_eq_true h2
   unfold cS
   rw [if_neg hne]
   exact cl y h1
  ·have hT:T x=cQ:=by
    rcases tb.val x with ⟨_,a,_⟩ | ⟨v,a,_⟩
    ·exact a
    ·rw [ev] at a;cases a
   exact⟨kvs,ks,rfl,hmd,by rw [sA hT];exact tb1,by rw [sA hT];exact cl,hl,s1⟩
  rintro σ' H2 ⟨kvs2,ks2,rfl,hm2,tb2,cl2,hl2,s2⟩
  have kl2:kvs2.length=ks2.length:=by have:=congrArg Hb tb2.keys;simpa using this
  refine⟨_,rfl,ln2,fun t nt=>?_⟩
  have s3:=af.new (o:=.tup [.aZ,.aZ]) nt
  have ht:(upd H2 t (.tup [.aZ,.aZ])) t=some (.tup [.aZ,.aZ]):=aa
  generalize (upd H2 t (.tup [.aZ,.aZ]))=H3 at s3 ht
  have sh3:SH H3 sv s:=sh.aK fun p xs e=>s3 _ _ (s2 _ _ e)
  have tb3:=tb2.aK (H':=H3) fun p xs e=>s3 _ _ e
  have hm3:=s3 _ _ hm2
  refine⟨dS s,.tuple [.none,.none],sh3.rd,.tup ht (.cons .aZ (.cons .aZ .nil)),xJ s,rfl,(by have:=BG s;omega),_,rfl,?_⟩
  by_cases hs:s=cQ
  ·refine bh (by rw [qZ,decide_eq_true hs];rfl) ?_
   subst hs
   exact⟨_,rfl,q md H3 ⟨kvs2,ks2,hm3,tb3,cl2,IE hl2⟩ (s2.trans s3)⟩
  ·refine bY (by rw [qZ,decide_eq_false hs];rfl) ?_
   refine⟨_,rfl,_,rfl,_,rfl,md,_,rfl,gW.k (k:=Sum.inr x) hm3 (bC (by omega)),?_⟩
   obtain⟨ks4,tb4,k4,m4⟩:=tb3.put x (.inl sh3)
   rw [zo] at tb4
   refine⟨_,rfl,q md _ ⟨_,ks4,aa,tb4.aK (fun p xs e=>by rw [ao (bw e hm3 (by intro z;cases z))];exact e),fun y hy=>?_,by omega⟩ ((s2.trans s3).put nmd)⟩
   unfold cS
   by_cases e:y=x
   ·rw [if_pos e];exact hs
   ·rw [if_neg e]
    have h1:=cl2 y (((m4 y).mp hy).elim id fun z=>absurd z e)
    unfold cS at h1
    rw [if_neg e] at h1
    exact h1
theorem tq {f:Addr} {fd:FuncData} (F:b0 K "_law_behind" "_law_behind" jA f fd) (Z:Bl mg) (O_law_with:Own P w K mg base "_law_with" 1 ["facts", "name", "stretch"] rm):bA P w K mg base bX 2 f fd ["facts", "deeds"] zq:=by
 refine F.ok (k:=1) cu (fun vs H Q E h=>?_) (fun cdv A outer s H vs Q E hr h=>?_)
 ·obtain⟨d,p,T,m,ws,ds,rfl,_⟩:=h
  rfl
 ·obtain⟨d,p,T,m,ws,ds,rfl,lt,hp,r,hm,q⟩:=h
  refine⟨_,(ae (cW PassesOwn.never rfl (er (pv 1)) (aN (i:=2) cu.nd)
   (ae (dQ (aJ (i:=3) cu.nd (fK (dM hr) (pv 0) (aG bf (pv 2) ai) (aB (ay cE cE)) ⟨rfl,rfl,rfl,rfl⟩)))
   (ae (bg (aH cx (aG bf (pv 2) ai) ba (aP _))
   (ah (aJ (i:=3) cu.nd (aB (ay (aG bf (pv 2) ai) (aG bf (pv 2) ai)))))
   aM)
   (ae (bg (aH cx (aG bf (pv 2) ai) ba (aP _))
   (ah (aJ (i:=3) cu.nd (fK (dM hr) (pv 0) (aG bf (pv 2) ai) (aB (ay cE cE)) ⟨rfl,rfl,rfl,rfl⟩)))
   aM)
   (ae (bg (aH cx (aG bf (pv 2) ai) ba (aP _))
   (ah (aJ (i:=3) cu.nd (aB (ay cE cE))))
   aM)
   (ae (bg (aH cx (aG bf (pv 2) ai) ba (aP _))
   (ae (dG (pv 3) (cZ rfl (bc (aN (i:=4) cu.nd) (bc (aN (i:=5) cu.nd) cC))))
   (ae (dQ (bg (d6 (fz (pv 4)))
   (ah (aJ (i:=4) cu.nd (aY bR (pv 4) (aG bf (pv 2) ai))))
   aM))
   (ae (dQ (bg (d6 (fz (pv 5)))
   (ah (aJ (i:=5) cu.nd (aY bR (pv 5) (aG bf (pv 2) ai))))
   aM))
   (ah (aJ (i:=3) cu.nd (aB (ay (pv 4) (pv 5))))))))
   aM)
   (ah (aJ (i:=0) cu.nd (aI O_law_with hr (gc (pv 0) (aG bf (pv 2) ai) (pv 3)))))))))))
   (ah (aF (pv 0)))),?_⟩
  refine⟨_,rfl,p,rfl,⟨_,av.of hp⟩,fB (K:=K) (a:=p) (xs:=ws) (fun i Gf H'=>∃(u0 u1 u2 u3:Option V) (dc:Addr),Gf=[some (.ref dc),some (.ref p),u0,u1,u2,u3]/\LT H' dc (bD T (ds.take i)) (m+i)/\af H H') ?_ ?_ ?_ ?_⟩
  ·exact⟨_,_,_,_,d,rfl,lt,af.refl H⟩
  ·rintro i Gf H1 hi ⟨u0,u1,u2,u3,dc,rfl,lt1,s1⟩
   exact av.of (s1 _ _ hp)
  ·rintro i y Gf H1 hi ⟨u0,u1,u2,u3,dc,rfl,lt1,s1⟩
   have hil:i<ds.length:=by
    have:=(GH.mp hi).1
    rw [r.len,Gi] at this
    exact this
   have hdi:ds[i]?=some ds[i]:=by simp [hil]
   generalize ds[i]=dd at hdi
   obtain⟨v,hv,rd⟩:=r.get (i:=i) (d:=dB dd) (by rw [Gz,hdi];rfl)
   rw [hi] at hv
   cases hv
   have tkb:bD T (ds.take (i+1))=xK (bD T (ds.take i)) dd:=by
    unfold bD
    rw [GN,hdi,Option.toList_some,HY]
    rfl
   refine bJ ?_
   cases dd
   case put x n =>
    obtain⟨dp,rfl,hdp⟩:=gH rd
    obtain⟨kvs1,ks1,hd1,tb1,cl1,hl1⟩:=id lt1
    refine⟨fun σ' H2=>∃v:V,σ' = [some (.ref dc),some (.ref p),some (.ref dp),some v,u2,u3]/\SH H2 v (bD T (ds.take i) x)/\af H1 H2,⟨_,rfl,dc,rfl,.inl ⟨kvs1,.inl hd1⟩,_,rfl,dp,_,1,_,rfl,rfl,av.of (s1 _ _ hdp),dA,ln2,fun t nt=>?_⟩,?_⟩
    ·obtain⟨v,ev,sv⟩:=LT.get (tb1.aK fun p xs e=>af.new (o:=.tup [.aZ,.aZ]) nt _ _ e) cl1 aa x
     exact⟨_,v,eu.k (k:=Sum.inr x) (af.new nt _ _ hd1),ev,v,rfl,sv,af.new nt⟩
    rintro σ' H2 ⟨v,rfl,sv,s2⟩
    have lt2:=lt1.same s2
    have hdp2:=s2 _ _ (s1 _ _ hdp)
    refine⟨_,rfl,dp,_,0,_,rfl,rfl,av.of hdp2,cJ,rfl,_,rfl,?_⟩
    refine bY (show decide (V.str "put" = V.str "put")=true by decide +kernel) ?_
    refine⟨_,rfl,dp,_,2,_,rfl,rfl,av.of hdp2,at2,_,rfl,dp,_,2,_,rfl,rfl,av.of hdp2,at2,ln2,fun t nt=>?_⟩
    have s3:=af.new (o:=.tup [.int n,.int n]) nt
    have ht:(upd H2 t (.tup [.int n,.int n])) t=some (.tup [.int n,.int n]):=aa
    generalize (upd H2 t (.tup [.int n,.int n]))=H3 at s3 ht
    have hdp3:=s3 _ _ hdp2
    refine⟨_,rfl,dp,_,0,_,rfl,rfl,av.of hdp3,cJ,rfl,_,rfl,?_⟩
    refine bh (show decide (V.str "put" = V.str "copy")=false by decide +kernel) ?_
    refine⟨_,rfl,dp,_,0,_,rfl,rfl,av.of hdp3,cJ,rfl,_,rfl,?_⟩
    refine bh (show decide (V.str "put" = V.str "read")=false by decide +kernel) ?_
    refine⟨_,rfl,dp,_,0,_,rfl,rfl,av.of hdp3,cJ,rfl,_,rfl,?_⟩
    refine bh (show decide (V.str "put" = V.str "add")=false by decide +kernel) ?_
    refine⟨_,rfl,_,rfl,dp,_,1,_,rfl,rfl,av.of hdp3,dA,_,rfl,dc,_,m+i,x,_,oV (bD T (ds.take i)) (.put x n),rfl,lt2.same s3,(by omega),⟨t,rfl,ht⟩,fun d' H' lt' s'=>?_⟩
    refine⟨_,_,_,_,d',rfl,?_,(s1.trans s2).trans (s3.trans s')⟩
    rw [tkb]
    exact lt'
   case copy x y =>
    obtain⟨dp,rfl,hdp⟩:=gH rd
    obtain⟨kvs1,ks1,hd1,tb1,cl1,hl1⟩:=id lt1
    refine⟨fun σ' H2=>∃v:V,σ' = [some (.ref dc),some (.ref p),some (.ref dp),some v,u2,u3]/\SH H2 v (bD T (ds.take i) x)/\af H1 H2,⟨_,rfl,dc,rfl,.inl ⟨kvs1,.inl hd1⟩,_,rfl,dp,_,1,_,rfl,rfl,av.of (s1 _ _ hdp),dA,ln2,fun t nt=>?_⟩,?_⟩
    ·obtain⟨v,ev,sv⟩:=LT.get (tb1.aK fun p xs e=>af.new (o:=.tup [.aZ,.aZ]) nt _ _ e) cl1 aa x
     exact⟨_,v,eu.k (k:=Sum.inr x) (af.new nt _ _ hd1),ev,v,rfl,sv,af.new nt⟩
    rintro σ' H2 ⟨v,rfl,sv,s2⟩
    have lt2:=lt1.same s2
    have hdp2:=s2 _ _ (s1 _ _ hdp)
    refine⟨_,rfl,dp,_,0,_,rfl,rfl,av.of hdp2,cJ,rfl,_,rfl,?_⟩
    refine bh (show decide (V.str "copy" = V.str "put")=false by decide +kernel) ?_
    refine⟨_,rfl,dp,_,0,_,rfl,rfl,av.of hdp2,cJ,rfl,_,rfl,?_⟩
    refine bY (show decide (V.str "copy" = V.str "copy")=true by decide +kernel) ?_
    obtain⟨kvs2,ks2,hd2,tb2,cl2,hl2⟩:=id lt2
    refine⟨_,rfl,dc,rfl,.inl ⟨kvs2,.inl hd2⟩,_,rfl,dp,_,2,_,rfl,rfl,av.of hdp2,at2,ln2,fun t nt=>?_⟩
    obtain⟨v2,ev2,sv2⟩:=LT.get (tb2.aK fun p xs e=>af.new (o:=.tup [.aZ,.aZ]) nt _ _ e) cl2 aa y
    refine⟨_,v2,eu.k (k:=Sum.inr y) (af.new nt _ _ hd2),ev2,?_⟩
    have s3:=af.new (o:=.tup [.aZ,.aZ]) nt
    clear ev2
    generalize (upd H2 t (.tup [.aZ,.aZ]))=H3 at s3 sv2
    have hdp3:=s3 _ _ hdp2
    refine⟨_,rfl,dp,_,0,_,rfl,rfl,av.of hdp3,cJ,rfl,_,rfl,?_⟩
    refine bh (show decide (V.str "copy" = V.str "read")=false by decide +kernel) ?_
    refine⟨_,rfl,dp,_,0,_,rfl,rfl,av.of hdp3,cJ,rfl,_,rfl,?_⟩
    refine bh (show decide (V.str "copy" = V.str "add")=false by decide +kernel) ?_
    refine⟨_,rfl,_,rfl,dp,_,1,_,rfl,rfl,av.of hdp3,dA,_,rfl,dc,_,m+i,x,_,oV (bD T (ds.take i)) (.copy x y),rfl,lt2.same s3,(by omega),sv2,fun d' H' lt' s'=>?_⟩
    refine⟨_,_,_,_,d',rfl,?_,(s1.trans s2).trans (s3.trans s')⟩
    rw [tkb]
    exact lt'
   case read x =>
    obtain⟨dp,rfl,hdp⟩:=gH rd
    obtain⟨kvs1,ks1,hd1,tb1,cl1,hl1⟩:=id lt1
    refine⟨fun σ' H2=>∃v:V,σ' = [some (.ref dc),some (.ref p),some (.ref dp),some v,u2,u3]/\SH H2 v (bD T (ds.take i) x)/\af H1 H2,⟨_,rfl,dc,rfl,.inl ⟨kvs1,.inl hd1⟩,_,rfl,dp,_,1,_,rfl,rfl,av.of (s1 _ _ hdp),dA,ln2,fun t nt=>?_⟩,?_⟩
    ·obtain⟨v,ev,sv⟩:=LT.get (tb1.aK fun p xs e=>af.new (o:=.tup [.aZ,.aZ]) nt _ _ e) cl1 aa x
     exact⟨_,v,eu.k (k:=Sum.inr x) (af.new nt _ _ hd1),ev,v,rfl,sv,af.new nt⟩
    rintro σ' H2 ⟨v,rfl,sv,s2⟩
    have lt2:=lt1.same s2
    have hdp2:=s2 _ _ (s1 _ _ hdp)
    refine⟨_,rfl,dp,_,0,_,rfl,rfl,av.of hdp2,cJ,rfl,_,rfl,?_⟩
    refine bh (show decide (V.str "read" = V.str "put")=false by decide +kernel) ?_
    refine⟨_,rfl,dp,_,0,_,rfl,rfl,av.of hdp2,cJ,rfl,_,rfl,?_⟩
    refine bh (show decide (V.str "read" = V.str "copy")=false by decide +kernel) ?_
    refine⟨_,rfl,dp,_,0,_,rfl,rfl,av.of hdp2,cJ,rfl,_,rfl,?_⟩
    refine bY (show decide (V.str "read" = V.str "read")=true by decide +kernel) ?_
    refine⟨ln2,fun t nt=>?_⟩
    have s3:=af.new (o:=.tup [.aZ,.aZ]) nt
    have ht:(upd H2 t (.tup [.aZ,.aZ])) t=some (.tup [.aZ,.aZ]):=aa
    generalize (upd H2 t (.tup [.aZ,.aZ]))=H3 at s3 ht
    have hdp3:=s3 _ _ hdp2
    refine⟨_,rfl,dp,_,0,_,rfl,rfl,av.of hdp3,cJ,rfl,_,rfl,?_⟩
    refine bh (show decide (V.str "read" = V.str "add")=false by decide +kernel) ?_
    refine⟨_,rfl,_,rfl,dp,_,1,_,rfl,rfl,av.of hdp3,dA,_,rfl,dc,_,m+i,x,_,oV (bD T (ds.take i)) (.read x),rfl,lt2.same s3,(by omega),⟨t,rfl,ht⟩,fun d' H' lt' s'=>?_⟩
    refine⟨_,_,_,_,d',rfl,?_,(s1.trans s2).trans (s3.trans s')⟩
    rw [tkb]
    exact lt'
   case add x n =>
    obtain⟨dp,rfl,hdp⟩:=gH rd
    obtain⟨kvs1,ks1,hd1,tb1,cl1,hl1⟩:=id lt1
    refine⟨fun σ' H2=>∃v:V,σ' = [some (.ref dc),some (.ref p),some (.ref dp),some v,u2,u3]/\SH H2 v (bD T (ds.take i) x)/\af H1 H2,⟨_,rfl,dc,rfl,.inl ⟨kvs1,.inl hd1⟩,_,rfl,dp,_,1,_,rfl,rfl,av.of (s1 _ _ hdp),dA,ln2,fun t nt=>?_⟩,?_⟩
    ·obtain⟨v,ev,sv⟩:=LT.get (tb1.aK fun p xs e=>af.new (o:=.tup [.aZ,.aZ]) nt _ _ e) cl1 aa x
     exact⟨_,v,eu.k (k:=Sum.inr x) (af.new nt _ _ hd1),ev,v,rfl,sv,af.new nt⟩
    rintro σ' H2 ⟨v,rfl,sv,s2⟩
    have lt2:=lt1.same s2
    have hdp2:=s2 _ _ (s1 _ _ hdp)
    refine⟨_,rfl,dp,_,0,_,rfl,rfl,av.of hdp2,cJ,rfl,_,rfl,?_⟩
    refine bh (show decide (V.str "add" = V.str "put")=false by decide +kernel) ?_
    refine⟨_,rfl,dp,_,0,_,rfl,rfl,av.of hdp2,cJ,rfl,_,rfl,?_⟩
    refine bh (show decide (V.str "add" = V.str "copy")=false by decide +kernel) ?_
    refine⟨_,rfl,dp,_,0,_,rfl,rfl,av.of hdp2,cJ,rfl,_,rfl,?_⟩
    refine bh (show decide (V.str "add" = V.str "read")=false by decide +kernel) ?_
    refine⟨_,rfl,dp,_,0,_,rfl,rfl,av.of hdp2,cJ,rfl,_,rfl,?_⟩
    refine bY (show decide (V.str "add" = V.str "add")=true by decide +kernel) ?_
    obtain⟨sq,rfl,hsq⟩:=id sv
    refine⟨_,rfl,sq,_,rfl,av.of hsq,rfl,_,_,rfl,_,_,rfl,rfl,?_⟩
    refine⟨fun σ' H'=>σ' = [some (.ref dc),some (.ref p),some (.ref dp),some (.ref sq),some (vO (jr (bD T (ds.take i) x).1 n)),some (vO (bD T (ds.take i) x).2)]/\H2=H',?_,?_⟩
    ·cases (bD T (ds.take i) x).1 with
     | none=>exact⟨_,rfl,_,rfl,bN ⟨rfl,rfl⟩⟩
     | some z=>exact⟨_,rfl,_,rfl,bT ⟨_,rfl,_,rfl,dp,_,2,_,rfl,rfl,av.of hdp2,at2,_,_,rfl,rfl,rfl,rfl⟩⟩
    rintro σ' H' ⟨rfl,rfl⟩
    refine⟨fun σ' H'=>σ' = [some (.ref dc),some (.ref p),some (.ref dp),some (.ref sq),some (vO (jr (bD T (ds.take i) x).1 n)),some (vO (jr (bD T (ds.take i) x).2 n))]/\H2=H',?_,?_⟩
    ·cases (bD T (ds.take i) x).2 with
     | none=>exact⟨_,rfl,_,rfl,bN ⟨rfl,rfl⟩⟩
     | some z=>exact⟨_,rfl,_,rfl,bT ⟨_,rfl,_,rfl,dp,_,2,_,rfl,rfl,av.of hdp2,at2,_,_,rfl,rfl,rfl,rfl⟩⟩
    rintro σ' H' ⟨rfl,rfl⟩
    refine⟨_,rfl,_,rfl,ln2,fun t nt=>?_⟩
    have s3:=af.new (o:=.tup [vO (jr (bD T (ds.take i) x).1 n),vO (jr (bD T (ds.take i) x).2 n)]) nt
    have ht:(upd H2 t (.tup [vO (jr (bD T (ds.take i) x).1 n),vO (jr (bD T (ds.take i) x).2 n)])) t=some (.tup [vO (jr (bD T (ds.take i) x).1 n),vO (jr (bD T (ds.take i) x).2 n)]):=aa
    generalize (upd H2 t (.tup [vO (jr (bD T (ds.take i) x).1 n),vO (jr (bD T (ds.take i) x).2 n)]))=H3 at s3 ht
    have hdp3:=s3 _ _ hdp2
    refine⟨_,rfl,_,rfl,dp,_,1,_,rfl,rfl,av.of hdp3,dA,_,rfl,dc,_,m+i,x,_,oV (bD T (ds.take i)) (.add x n),rfl,lt2.same s3,(by omega),⟨t,rfl,ht⟩,fun d' H' lt' s'=>?_⟩
    refine⟨_,_,_,_,d',rfl,?_,(s1.trans s2).trans (s3.trans s')⟩
    rw [tkb]
    exact lt'
   case tell x =>
    obtain⟨dp,rfl,hdp⟩:=gH rd
    obtain⟨kvs1,ks1,hd1,tb1,cl1,hl1⟩:=id lt1
    refine⟨fun σ' H2=>∃v:V,σ' = [some (.ref dc),some (.ref p),some (.ref dp),some v,u2,u3]/\SH H2 v (bD T (ds.take i) x)/\af H1 H2,⟨_,rfl,dc,rfl,.inl ⟨kvs1,.inl hd1⟩,_,rfl,dp,_,1,_,rfl,rfl,av.of (s1 _ _ hdp),dA,ln2,fun t nt=>?_⟩,?_⟩
    ·obtain⟨v,ev,sv⟩:=LT.get (tb1.aK fun p xs e=>af.new (o:=.tup [.aZ,.aZ]) nt _ _ e) cl1 aa x
     exact⟨_,v,eu.k (k:=Sum.inr x) (af.new nt _ _ hd1),ev,v,rfl,sv,af.new nt⟩
    rintro σ' H2 ⟨v,rfl,sv,s2⟩
    have lt2:=lt1.same s2
    have hdp2:=s2 _ _ (s1 _ _ hdp)
    refine⟨_,rfl,dp,_,0,_,rfl,rfl,av.of hdp2,cJ,rfl,_,rfl,?_⟩
    refine bh (show decide (V.str "tell" = V.str "put")=false by decide +kernel) ?_
    refine⟨_,rfl,dp,_,0,_,rfl,rfl,av.of hdp2,cJ,rfl,_,rfl,?_⟩
    refine bh (show decide (V.str "tell" = V.str "copy")=false by decide +kernel) ?_
    refine⟨_,rfl,dp,_,0,_,rfl,rfl,av.of hdp2,cJ,rfl,_,rfl,?_⟩
    refine bh (show decide (V.str "tell" = V.str "read")=false by decide +kernel) ?_
    refine⟨_,rfl,dp,_,0,_,rfl,rfl,av.of hdp2,cJ,rfl,_,rfl,?_⟩
    refine bh (show decide (V.str "tell" = V.str "add")=false by decide +kernel) ?_
    refine⟨_,rfl,_,rfl,dp,_,1,_,rfl,rfl,av.of hdp2,dA,_,rfl,dc,_,m+i,x,_,oV (bD T (ds.take i)) (.tell x),rfl,lt2.same (af.refl H2),(by omega),sv,fun d' H' lt' s'=>?_⟩
    refine⟨_,_,_,_,d',rfl,?_,(s1.trans s2).trans ((af.refl H2).trans s')⟩
    rw [tkb]
    exact lt'
  ·rintro Gf H1 ⟨u0,u1,u2,u3,dc,rfl,lt1,s1⟩
   have hwl:ws.length=ds.length:=by rw [r.len,Gi]
   rw [hwl,GR] at lt1
   exact⟨_,rfl,q dc H1 lt1 s1⟩
theorem u9 {f:Addr} {fd:FuncData} (F:b0 K "_law_leads" "_law_leads" jZ f fd) (Z:Bl mg) (O_law_part:Own P w K mg base "_law_part" 1 ["stretch", "word", "number", "side"] wJ) (O_law_with:Own P w K mg base "_law_with" 1 ["facts", "name", "stretch"] rm):bA P w K mg base bX 3 f fd ["facts", "end"] uF:=by
 refine F.ok (k:=2) ia (fun vs H Q E h=>?_) (fun cdv A outer s H vs Q E hr h=>?_)
 ·obtain⟨d,ea,T,e,m,rfl,_⟩:=h
  rfl
 ·obtain⟨d,ea,T,e,m,rfl,lt,hm,le,he,q⟩:=h
  refine⟨_,(ae (bg (aH cx (aG bf (pv 1) ai) ba (aP _))
   (ah (aF (bZ bQ)))
   aM)
   (ae (bg (aH cx (aG bf (pv 1) ai) ba (aP _))
   (ah (aF (bZ (au (aB (gc cE (aG bf (pv 1) ai) (pv 0)))))))
   aM)
   (ae (aJ (i:=2) ia.nd (bZ bQ))
   (ae (cW PassesOwn.never rfl (fA (bZ (ay fc fc))) (aN (i:=3) ia.nd)
   (ae (dQ (aJ (i:=4) ia.nd (aI O_law_part hr (uV (fK (dM hr) (pv 0) (aG bf (pv 1) ai) (aB (ay cE cE)) ⟨rfl,rfl,rfl,rfl⟩) (aG bf (pv 1) ai) (aG bf (pv 1) ai) (pv 3)))))
   (ah (bg (d6 (fz (pv 4)))
   (ah (cf (df PySem.F.plainAttrs_list PySem.F.slot_list_append PySem.F.type_list_append bU (pv 2) (au (aB (gc (pv 3) (aG bf (pv 1) (aY fI ai (bE jF rfl Z.int ma (au (pv 3))))) (aI O_law_with hr (gc (pv 0) (aG bf (pv 1) ai) (pv 4)))))))))
   aM))))
   (ah (aF (pv 2))))))),?_⟩
  refine⟨_,rfl,ea,_,0,_,rfl,rfl,av.of he,(by cases e <;> exact cJ:fq (eJ e) 0=some (V.str (wE e))),rfl,_,rfl,?_⟩
  cases e with
  | stop =>
   refine bY (show decide (V.str "stop" = V.str "stop")=true by decide +kernel) ?_
   exact⟨(by show 0<=sizeLine;decide),fun l hl=>q l [] _ aa .nil (af.new hl)⟩
  | go p =>
   refine bh (show decide (V.str "go" = V.str "stop")=false by decide +kernel) ?_
   refine⟨_,rfl,ea,_,0,_,rfl,rfl,av.of he,cJ,rfl,_,rfl,?_⟩
   refine bY (show decide (V.str "go" = V.str "go")=true by decide +kernel) ?_
   refine⟨_,rfl,ea,_,1,_,rfl,rfl,av.of he,dA,_,rfl,vX,fun t nt=>⟨tV,fun l hl=>?_⟩⟩
   have q1:=af.new (o:=.tup [.aZ,.int (p:Nat),.ref d]) nt
   have q2:=af.new (o:=.lst [V.ref t]) hl
   exact q l _ _ aa (.cons ⟨t,.aZ,d,rfl,q2 _ _ aa,((lt.same q1).same q2).up (Hn _)⟩ .nil) (q1.trans q2)
  | cF b x n p r =>
   refine bh (show decide (V.str (wT b)=V.str "stop")=false by cases b <;> decide +kernel) ?_
   refine⟨_,rfl,ea,_,0,_,rfl,rfl,av.of he,cJ,rfl,_,rfl,?_⟩
   refine bh (show decide (V.str (wT b)=V.str "go")=false by cases b <;> decide +kernel) ?_
   refine⟨(by show 0<=sizeLine;decide),fun fl hfl=>?_⟩
   have s1:=af.new (o:=.lst []) hfl
   have hfl1:(upd H fl (.lst [])) fl=some (.lst []):=aa
   generalize (upd H fl (.lst []))=H1 at s1 hfl1
   refine⟨ln2,fun sl hsl=>⟨sl,rfl,⟨_,aO.of aa⟩,?_⟩⟩
   have s2:=af.new (o:=.lst [.bl true,.bl false]) hsl
   have hsl2:(upd H1 sl (.lst [.bl true,.bl false])) sl=some (.lst [.bl true,.bl false]):=aa
   have nsl:sl≠fl:=(ar hfl1 hsl).symm
   have hfl2:=s2 _ _ hfl1
   generalize (upd H1 sl (.lst [.bl true,.bl false]))=H2 at s2 hsl2 hfl2
   refine ig (K:=K) (a:=sl) (xs:=[.bl true,.bl false]) (fun i Gf H'=>∃(u1 u2:Option V) (vs:List V),Gf=[some (.ref d),some (.ref ea),some (.ref fl),u1,u2]/\H' fl=some (.lst vs)/\H' sl=some (.lst [.bl true,.bl false])/\iQ (m+1) H' vs ((((aV (.cF b x n p r)).zip (hG T (.cF b x n p r))).take i).filterMap fun p=>p.2.map fun U=>(p.1,U))/\vs.length<=i/\af H H') ?_ ?_ ?_ ?_
   ·exact⟨_,_,[],rfl,hfl2,hsl2,.nil,Gj _,s1.trans s2⟩
   ·rintro i Gf H3 hi ⟨u1,u2,vs,rfl,h1,h2,tv,hvl,s3⟩
    exact aO.of h2
   ·rintro i y Gf H3 hi ⟨u1,u2,vs,rfl,h1,h2,tv,hvl,s3⟩
    obtain⟨side,rfl,hwy,hby,hi2⟩:∃side:Bool,y=.bl side/\(aV (.cF b x n p r))[i]?=some (if side=true then p else r)/\(hG T (.cF b x n p r))[i]?=some ((fw T b x n side).map (cS T x))/\i<2:=by
     match i,hi with
     | 0,hi=>cases hi;exact⟨true,rfl,rfl,rfl,by omega⟩
     | 1,hi=>cases hi;exact⟨false,rfl,rfl,rfl,by omega⟩
     | i+2,hi=>simp at hi
    have hnext:=sD (T:=T) (e:=.cF b x n p r) hwy hby
    have he3:=s3 _ _ he
    have lt3:=lt.same s3
    obtain⟨kvs,ks,hd3,tb3,cl3,hl3⟩:=id lt3
    refine bJ ?_
    refine⟨fun σ' H'=>∃v:V,σ' = [some (.ref d),some (.ref ea),some (.ref fl),some (.bl side),some v]/\RV H' v (fw T b x n side)/\af H3 H',?_,?_⟩
    ·refine⟨_,rfl,d,rfl,.inl ⟨kvs,.inl hd3⟩,_,rfl,ea,_,1,_,rfl,rfl,av.of he3,dA,ln2,fun t nt=>?_⟩
     have s4:=af.new (o:=.tup [.aZ,.aZ]) nt
     obtain⟨v,ev,sv⟩:=LT.get (tb3.aK fun p xs e=>af.new (o:=.tup [.aZ,.aZ]) nt _ _ e) cl3 aa x
     obtain⟨sq,rfl,hsq⟩:=id sv
     refine⟨_,_,eu.k (k:=Sum.inr x) (s4 _ _ hd3),ev,?_⟩
     refine⟨_,rfl,ea,_,0,_,rfl,rfl,av.of (s4 _ _ he3),cJ,_,rfl,ea,_,2,_,rfl,rfl,av.of (s4 _ _ he3),at2,_,rfl,sq,b,n,side,_,_,rfl,hsq,le x,fun v H5 r5 s5=>?_⟩
     exact⟨v,rfl,r5,s4.trans s5⟩
    rintro σ' H4 ⟨v,rfl,rv,s4⟩
    have h14:=s4 _ _ h1
    have h24:=s4 _ _ h2
    have tv4:=tv.same s4
    refine⟨_,rfl,_,rfl,?_⟩
    cases hp:fw T b x n side with
    | none =>
     rw [hp] at rv hnext
     cases (show v=V.aZ from rv)
     refine bN ?_
     refine⟨_,_,vs,rfl,h14,h24,?_,IE hvl,s3.trans s4⟩
     rw [hnext]
     simpa using tv4
    | some sx =>
     rw [hp] at rv hnext
     have shv:SH H4 v sx:=by
      obtain⟨a1,b1⟩:=sx
      obtain⟨yp,e,h⟩:=rv
      exact⟨yp,e,h⟩
     obtain⟨yp,rfl,hyp⟩:=id shv
     refine bT ?_
     have he4:=s4 _ _ he3
     have hat:fq (eJ (.cF b x n p r)) (4-(if side=true then 1 else 0))=some (V.int ((if side=true then p else r:Nat):Nat)):=by
      cases side
      ·exact bS (j:=4) rfl
      ·exact bS (j:=3) rfl
     refine⟨_,rfl,.inl ⟨rfl,_,aO.of h14⟩,_,rfl,_,rfl,_,rfl,.inr ⟨_,rfl,_,_,rfl,rfl,ea,_,_,_,rfl,rfl,av.of he4,hat,?_⟩⟩
     refine⟨_,rfl,_,rfl,ea,_,1,_,rfl,rfl,av.of he4,dA,_,rfl,d,T,m,x,.ref yp,sx,rfl,lt3.same s4,(by omega),shv,fun d' H5 lt5 s5=>⟨vX,fun t nt=>?_⟩⟩
     have s6:=af.new (o:=.tup [.bl side,.int ((if side=true then p else r:Nat):Nat),.ref d']) nt
     have h16:=s6 _ _ (s5 _ _ h14)
     refine⟨fl,vs,_,rfl,rfl,h16,bC (by omega),?_⟩
     refine⟨_,_,vs++[.ref t],rfl,aa,by rw [ao nsl];exact s6 _ _ (s5 _ _ h24),?_,(by rw [Gq];show _+1<=_;omega),((s3.trans s4).trans (s5.trans s6)).put hfl⟩
     rw [hnext]
     refine d8 (((tv4.same s5).same s6).put h16) (.cons ⟨t,.bl side,d',rfl,?_,(lt5.same s6).put h16⟩ .nil)
     have ht:(upd H5 t (.tup [.bl side,.int ((if side=true then p else r:Nat):Nat),.ref d'])) t=some (.tup [.bl side,.int ((if side=true then p else r:Nat):Nat),.ref d']):=aa
     rw [ao (bw ht h16 (by intro z;cases z))]
     exact ht
   ·rintro Gf H3 ⟨u1,u2,vs,rfl,h1,h2,tv,hvl,s3⟩
    exact⟨_,rfl,q fl vs H3 h1 tv s3⟩
theorem vD {f:Addr} {fd:FuncData} (F:b0 K "_law_told" "_law_told" lF f fd) (Z:Bl mg)  : bA P w K mg base bX 1 f fd ["facts"] wA:=by
 refine F.ok (k:=0) vp (fun vs H Q E h=>?_) (fun cdv A outer s H vs Q E hr h=>?_)
 ·obtain⟨d,T,rfl,_⟩:=h
  rfl
 ·obtain⟨d,T,rfl,lt,q⟩:=h
  refine⟨_,(ah (aF (bE bF rfl Z.tuple cb (au (fJ ["name"] ["facts"] [0] rfl (fA (aT (jo rfl) rfl Z.sorted fb (au (pv 0)))) rfl (by decide +kernel) (by decide +kernel) (by decide +kernel) ⟨⟨rfl,.inl rfl,rfl⟩,True.intro⟩ (fun _ _ _ _=>(aN (i:=0) (show ((["name"]:List Str)++(["facts"]:List Str)).Nodup by decide +kernel) (hf:=GQ rfl))) (fun _ _ _ _=>eX) (fun _ _ _ _=>(aB (ay (pv 0) (nh (dM hr) (pv 1) (pv 0) (fun _ _=>rfl)))))))))),?_⟩
  obtain⟨kvs,ks,hd,tb,cl,hl⟩:=lt
  refine⟨_,rfl,d,kvs,ks,rfl,hd,tb.keys,(by omega),fun l ss hp hs hn=>?_⟩
  have srt:jq ss:=⟨mx hs,hp.nodup_iff.mpr tb.nd⟩
  have hl1:(upd H l (.lst (ss.map V.str))) l=some (.lst (ss.map V.str)):=aa
  have s1:af H (upd H l (.lst (ss.map V.str))):=af.new hn
  have hssl:ss.length<64:=by rw [hp.length_eq];omega
  generalize (upd H l (.lst (ss.map V.str)))=H1 at hl1 s1
  refine⟨l,rfl,⟨_,aO.of hl1⟩,fun acc na=>?_⟩
  refine m9 (K:=K) (a:=l) (xs:=ss.map V.str) (fun i ys Gg H'=>∃c:Option V,Gg=[c,some (.ref d)]/\bu H' ys ((ss.take i).map (dF T))/\H' acc=some (.lst ys)/\af H1 H') ?_ ?_ ?_ ?_
  ·exact⟨none,rfl,.nil,aa,af.new na⟩
  ·rintro i ys Gg H2 hi ⟨c,rfl,r,ha,s2⟩
   refine⟨aO.of (s2 _ _ hl1),ha,?_⟩
   have h1:=r.len
   rw [Gi,G9] at h1
   exact bC (by omega)
  ·rintro i x ys Gg H2 hi ⟨c,rfl,r,ha,s2⟩
   obtain⟨y,hy,rfl⟩:∃y,ss[i]?=some y/\x=V.str y:=by
    rw [Gz] at hi
    cases e:ss[i]? with
    | none=>rw [e] at hi;cases hi
    | some k=>rw [e] at hi;exact⟨k,rfl,(Gy.inj hi).symm⟩
   have hym:y∈ks:=hp.mem_iff.mp (GB hy)
   have tk:ss.take (i+1)=ss.take i++[y]:=by rw [GN,hy];rfl
   obtain⟨v,ev,sv⟩:∃v,b5 kvs (Sum.inr y)=some v/\SH H v (T y):=by
    rcases tb.val y with ⟨_,_,c⟩ | ⟨v,a,b,_⟩
    ·exact absurd hym c
    ·rcases b with b | ⟨_,b⟩
     ·exact⟨v,a,b⟩
     ·exact absurd b (cl y hym)
   have hd2:H2 d=some (.dK kvs):=s2 _ _ (s1 _ _ hd)
   have dg:eu H2 d (.str y) (some v):=by
    have:=eu.k (k:=Sum.inr y) hd2
    rw [ev] at this
    exact this
   refine bJ ?_
   refine jR ?_
   refine bT ?_
   refine⟨_,rfl,_,rfl,_,rfl,d,v,rfl,dg,ln2,fun t nt=>?_⟩
   have s3:=af.new (o:=.tup [.str y,v]) nt
   have ht:(upd H2 t (.tup [.str y,v])) t=some (.tup [.str y,v]):=aa
   generalize (upd H2 t (.tup [.str y,v]))=H3 at s3 ht
   have sh:SH H3 v (T y):=sv.aK fun p xs e=>s3 _ _ (s2 _ _ (s1 _ _ e))
   have ha3:=s3 _ _ ha
   refine⟨ha3,_,rfl,?_,aa,(s2.trans s3).put na⟩
   rw [tk,GF]
   refine bu.app ((r.same s3 (iG T _)).put ha3 (iG T _)) ?_
   refine aX.aK (H:=H3) (fun p zs e=>by rw [ao (bw e ha3 (by intro z;cases z))];exact e) (.tup ht (.cons (.str y) (.cons sh.rd .nil))) ?_
   have:=iG T [y]
   simpa [b4] using this
  ·rintro ys Gg H2 ⟨c,rfl,r,ha,s2⟩
   rw [Gi,GR] at r
   refine⟨acc,ys,rfl,.inl ⟨aO.of ha,fun t nt=>?_⟩⟩
   refine q _ _ ⟨t,ys,ss,rfl,aa,srt,fun x=>?_,r.same (af.new nt) (iG T _)⟩ ((s1.trans s2).trans (af.new nt))
   rw [hp.mem_iff]
   constructor
   ·exact cl x
   ·intro h
    rcases tb.val x with ⟨_,a,_⟩ | ⟨_,_,_,a⟩
    ·exact absurd a h
    ·exact a
theorem vE {f:Addr} {fd:FuncData} (F:b0 K "_law_ways" "_law_ways" lG f fd) (Z:Bl mg)  : bA P w K mg base bX 1 f fd ["end"] o3:=by
 refine F.ok (k:=0) vq (fun vs H Q E h=>?_) (fun cdv A outer s H vs Q E hr h=>?_)
 ·obtain⟨ea,e,rfl,_⟩:=h
  rfl
 ·obtain⟨ea,e,rfl,he,q⟩:=h
  refine⟨_,(ae (bg (aH cx (aT aU rfl Z.len bV (au (pv 0))) ai (aP _))
   (ah (aF (bZ (ay (aG bf (pv 0) ai) (aG bf (pv 0) ai)))))
   aM)
   (ah (aF (bE lZ rfl Z.list vW (au (ky nj (pv 0) (m8 ai) m7)))))),?_⟩
  refine⟨_,rfl,ea,_,rfl,.inr (av.of he),rfl,_,rfl,?_⟩
  cases e with
  | stop =>
   refine bh (show decide (V.int ((1:Nat):Int)=V.int 5)=false by decide +kernel) ?_
   refine⟨_,rfl,_,rfl,ea,_,rfl,av.of he,fun hw=>absurd hw.1 (by decide),fun _ p hp=>⟨p,_,rfl,.inr (av.of aa),fun l nl=>q l _ ((af.new hp).free nl) aa ((af.new hp).trans (af.new nl))⟩⟩
  | go p1 =>
   refine bh (show decide (V.int ((2:Nat):Int)=V.int 5)=false by decide +kernel) ?_
   refine⟨_,rfl,_,rfl,ea,_,rfl,av.of he,fun hw=>absurd hw.1 (by show ¬HT.cm 2 0 (some 1)=0;decide),fun _ p hp=>⟨p,_,rfl,.inr (av.of aa),fun l nl=>q l _ ((af.new hp).free nl) aa ((af.new hp).trans (af.new nl))⟩⟩
  | cF b x n p1 p2 =>
   refine bY (show decide (V.int ((5:Nat):Int)=V.int 5)=true by decide +kernel) ?_
   refine⟨_,rfl,ea,_,3,_,rfl,rfl,av.of he,bS (j:=3) rfl,_,rfl,ea,_,4,_,rfl,rfl,av.of he,bS (j:=4) rfl,ln2,fun l nl=>q l _ nl aa (af.new nl)⟩
theorem rM {f:Addr} {fd:FuncData} (F:b0 K "_law_reached" "_law_reached" iY f fd) (Z:Bl mg) (O_law_ways:Own P w K mg base "_law_ways" 1 ["end"] o3):bA P w K mg base bX 3 f fd ["plan"] qw:=by
  refine F.ok (k:=2) e6 (fun vs H Q E h=>?_) (fun cdv A outer s H vs Q E hr h=>?_)
  . obtain⟨plv,ps,rfl,_⟩:=h
    rfl
  . obtain⟨plv,ps,rfl,hp,hin,hn0,hn,q⟩:=h
    refine⟨_,(ae (aJ (i:=1) e6.nd (bZ (au ai)))
      (ae (aJ (i:=2) e6.nd ai)
      (ae (jd PassesOwn.never (aH gy (pv 2) (aT aU rfl Z.len bV (au (pv 1))) (aP _))
      (ae (cW PassesOwn.never rfl (fA (aI O_law_ways hr (au (aG bf (aG bf (pv 0) (aG cg (pv 1) (pv 2))) ai)))) (aN (i:=3) e6.nd)
      (ah (bg (aH lY (pv 3) (pv 1) (by with_unfolding_all rfl))
      (ah (cf (df PySem.F.plainAttrs_list PySem.F.slot_list_append PySem.F.type_list_append bU (pv 1) (au (pv 3)))))
      aM)))
      (ah (aJ (i:=2) e6.nd (aY bR (pv 2) ai)))))
      (ah (aF (aT (sW) rfl Z.sorted fb (au (pv 1)))))))),?_⟩
    obtain⟨pp,vs,rfl,e1,r1⟩:=aX.bP hp
    have hvl:=r1.len
    rw [Gi] at hvl
    refine⟨tV,fun fl nfl=>?_⟩
    have s1:=af.new (o:=.lst [.int 0]) nfl
    have hf1:(upd H fl (.lst [.int 0])) fl=some (.lst (vN [0])):=aa
    generalize (upd H fl (.lst [.int 0]))=H1 at s1 hf1
    refine⟨fun m Gf H'=>∃(ks:List Nat) (at_:Nat) (u:Option V),Gf=[some (.ref pp),some (.ref fl),some (.int (at_:Nat)),u]/\H' fl=some (.lst (vN ks))/\ks.Nodup/\(∀k∈ks,k<ps.length)/\(∀k∈ks,iV ps k)/\0∈ks/\at_<=ks.length/\(∀k∈ks.take at_,∀ds e,ps[k]?=some (ds,e)->∀j∈aV e,j∈ks)/\m=ps.length-at_/\af H H',⟨_,[0],0,_,rfl,hf1,by simp,(fun k hk=>by rw [Gk.mp hk];exact hn0),(fun k hk=>by rw [Gk.mp hk];exact .zero),by simp,GI _,(fun k hk=>by simp at hk),rfl,s1⟩,?_⟩
    rintro m Gf H2 ⟨ks,at_,u,rfl,hf2,nd,lt,uM,h0,hak,hcl,hm,s2⟩
    have hkn:=d9 nd lt
    have hvl2:(vN ks).length=ks.length:=Gi ..
    refine⟨_,rfl,_,rfl,fl,_,rfl,.inl (aO.of hf2),_,_,rfl,rfl,_,rfl,?_⟩
    refine dh (fun hc=>?_) (fun hc=>?_)
    . have hlt:at_<ks.length:=by have:=of_decide_eq_true hc;omega
      have hki:ks[at_]?=some ks[at_]:=by simp [hlt]
      generalize ks[at_]=kk at hki
      have hkm:=GB hki
      have hkb:=lt kk hkm
      have hps:ps[kk]?=some ps[kk]:=by simp [hkb]
      generalize ps[kk]=pce at hps
      obtain⟨ds,e⟩:=pce
      obtain⟨p',xs',pc,da,ea,wsv,ep,e1',el',hx',e2,e3,r3,e4⟩:=fh hp hps
      cases ep
      rw [e1] at e1'
      cases e1'
      refine⟨_,fun σ' H' h=>⟨ps.length-(at_+1),by omega,h⟩,?_⟩
      refine⟨_,rfl,_,rfl,_,rfl,fl,_,_,_,rfl,rfl,aO.of hf2,bS (by rw [Gz,hki];rfl),pp,_,_,_,rfl,rfl,av.of (s2 _ _ e1),bS hx',pc,_,1,_,rfl,rfl,av.of (s2 _ _ e2),dA,ea,e,rfl,s2 _ _ e4,fun wl H5 nwl hwl s5=>?_⟩
      have nfw:fl≠wl:=ar hf2 nwl
      have hf5:=s5 _ _ hf2
      refine⟨wl,rfl,⟨_,aO.of hwl⟩,ig (K:=K) (a:=wl) (xs:=vN (aV e)) (fun i Gf H'=>∃(ks':List Nat) (more:List Nat) (u:Option V),Gf=[some (.ref pp),some (.ref fl),some (.int (at_:Nat)),u]/\H' fl=some (.lst (vN ks'))/\ks' = ks++more/\ks'.Nodup/\(∀k∈ks',k<ps.length)/\(∀k∈ks',iV ps k)/\(∀k∈(aV e).take i,k∈ks')/\(∀c o,H5 c=some o->c≠fl->H' c=some o)) ?_ ?_ ?_ ?_⟩
      . exact⟨ks,[],_,rfl,hf5,by rw [Hm],nd,lt,uM,(fun k hk=>by simp at hk),fun c o h _=>h⟩
      . rintro i Gf H6 hi ⟨ks',more,u,rfl,g1,g2,g3,g4,g5,g6,g7⟩
        exact aO.of (g7 _ _ hwl nfw.symm)
      . rintro i y Gf H6 hi ⟨ks',more,u,rfl,g1,rfl,g3,g4,g5,g6,g7⟩
        obtain⟨k0,hk0,rfl⟩:∃k,(aV e)[i]?=some k/\y=V.int (k:Nat):=by
          rw [Gz] at hi
          cases z:(aV e)[i]? with
          | none=>rw [z] at hi;cases hi
          | some k=>rw [z] at hi;exact⟨k,rfl,(Gy.inj hi).symm⟩
        have hk0m:=GB hk0
        have hk0b:=nB hin hps k0 hk0m
        have htk:(aV e).take (i+1)=(aV e).take i++[k0]:=by rw [GN,hk0];rfl
        refine bJ ?_
        refine⟨_,rfl,_,rfl,fl,_,rfl,.inl (aO.of g1),rfl,ny _,_,rfl,?_⟩
        rw [show (if true=true then !lL (.int (k0:Nat)) (vN (ks++more)) else lL (.int (k0:Nat)) (vN (ks++more))) = !decide (k0∈ks++more) from congrArg (!·) (kn k0 _)]
        by_cases hm0:k0∈ks++more
        . refine bh (by rw [decide_eq_true hm0];rfl) ?_
          refine⟨_,more,_,rfl,g1,rfl,g3,g4,g5,fun k hk=>?_,g7⟩
          rw [htk] at hk
          rcases Gw.mp hk with hk | hk
          . exact g6 k hk
          . rw [Gk.mp hk];exact hm0
        . refine bY (by rw [decide_eq_false hm0];rfl) ?_
          have hfew:=d9 g3 g4
          refine⟨_,rfl,.inl ⟨rfl,_,aO.of g1⟩,_,rfl,fl,_,_,rfl,rfl,g1,bC (by rw [Gi];omega),?_⟩
          refine⟨ks++(more++[k0]),more++[k0],_,rfl,?_,rfl,?_,fun k hk=>?_,fun k hk=>?_,fun k hk=>?_,fun c o h c1=>by rw [ao c1];exact g7 c o h c1⟩
          . rw [aa]
            show _=some (HO.lst ((ks++(more++[k0])).map _))
            rw [<-GY,GF]
            rfl
          . rw [<-GY,Hz]
            refine⟨g3,by simp,fun x hx y hy z=>?_⟩
            rw [Gk.mp hy] at z
            exact hm0 (z ▸ hx)
          . rw [<-GY] at hk
            rcases Gw.mp hk with hk | hk
            . exact g4 k hk
            . rw [Gk.mp hk];exact hk0b
          . rw [<-GY] at hk
            rcases Gw.mp hk with hk | hk
            . exact g5 k hk
            . rw [Gk.mp hk];exact .step (uM kk hkm) hps hk0m
          . rw [htk] at hk
            rw [<-GY]
            rcases Gw.mp hk with hk | hk
            . exact GV _ (g6 k hk)
            . exact GS _ hk
      . rintro Gf H6 ⟨ks',more,u,rfl,g1,rfl,g3,g4,g5,g6,g7⟩
        rw [show (vN (aV e)).length=(aV e).length from Gi ..,GR] at g6
        refine⟨_,rfl,_,_,rfl,rfl,?_⟩
        refine⟨ks++more,at_+1,_,rfl,g1,g3,g4,g5,GV _ h0,(by rw [Gq];omega),fun k hk ds' e' he' j hj=>?_,rfl,fun c o h=>g7 c o (s5 _ _ (s2 c o h)) (ar h nfl)⟩
        rw [List.take_append_of_le_length (by omega),GN,hki] at hk
        rcases Gw.mp hk with hk | hk
        . exact GV _ (hcl k hk ds' e' he' j hj)
        . have hk:k=kk:=Gk.mp hk
          subst hk
          rw [hps] at he'
          cases he'
          exact g6 j hj
    . have hge:ks.length<=at_:=by
        by_cases z:at_<ks.length
        . exact absurd (decide_eq_true (by omega)) hc
        . omega
      have all:∀k,k∈ks↔iV ps k:=fun k=>by
        refine⟨uM k,fun r=>?_⟩
        induction r with
        | zero=>exact h0
        | step r hp' hk ih=>exact hcl _ (by rw [IQ hge];exact ih) _ _ hp' _ hk
      refine⟨_,rfl,fl,ks.map (fun k:Nat=>(k:Int)),rfl,(by rw [<-mE];exact aO.of hf2),(by rw [Gi];omega),fun l ns' hperm _ nl=>?_⟩
      obtain⟨ms,rfl,hms⟩:=hR hperm
      rw [<-mE]
      exact q l ms _ aa (fun k=>(hms.mem_iff).trans (all k)) (fun k hk=>lt k (hms.mem_iff.mp hk)) (by rw [hms.length_eq];omega) (s2.trans (af.new nl))
theorem va {f:Addr} {fd:FuncData} (F:b0 K "_law_heads" "_law_heads" j0 f fd) (Z:Bl mg) (O_law_reached:Own P w K mg base "_law_reached" 3 ["plan"] qw) (O_law_ways:Own P w K mg base "_law_ways" 1 ["end"] o3):bA P w K mg base bX 4 f fd ["plan"] uO:=by
 refine F.ok (k:=3) ib (fun vs H Q E h=>?_) (fun cdv A outer s H vs Q E hr h=>?_)
 ·obtain⟨plv,ps,rfl,_⟩:=h
  rfl
 ·obtain⟨plv,ps,rfl,hp,hin,hn0,hn,q⟩:=h
  refine⟨_,(ae (aJ (i:=1) ib.nd iq)
   (ae (cW PassesOwn.never rfl (fA (aI O_law_reached hr (au (pv 0)))) (aN (i:=2) ib.nd)
   (ah (cW PassesOwn.never rfl (fA (aI O_law_ways hr (au (aG bf (aG bf (pv 0) (pv 2)) ai)))) (aN (i:=3) ib.nd)
   (ah (bg (aH tF (pv 3) (pv 2) (aP _))
   (ah (fC (dM hr) (pv 1) (pv 3) fc rfl))
   aM)))))
   (ah (aF (aT (sX rfl) rfl Z.sorted fb (au (pv 1))))))),?_⟩
  obtain⟨pp,vs,rfl,e1,r1⟩:=aX.bP hp
  have hvl:=r1.len
  rw [Gi] at hvl
  refine fun fd nfd=>?_
  have s1:=af.new (o:=.dK []) nfd
  have hf1:(upd H fd (.dK [])) fd=some (.dK []):=aa
  generalize (upd H fd (.dK []))=H1 at s1 hf1
  refine⟨_,rfl,_,ps,rfl,hp.same s1 (dN ps),hin,hn0,hn,fun t ks H2 ht hks hlt hkl s2=>?_⟩
  have hf2:=s2 _ _ hf1
  have s12:=s1.trans s2
  have ntf:t≠fd:=bw ht hf2 (by intro z;cases z)
  refine⟨t,rfl,⟨_,aO.of ht⟩,ig (K:=K) (a:=t) (xs:=vN ks) (fun i Gf H'=>∃(hs:List Nat) (kvs:List (Key×V)) (u1 u2:Option V),Gf=[some (.ref pp),some (.ref fd),u1,u2]/\H' fd=some (.dK kvs)/\kvs.map (·.1)=kI hs/\hs.Nodup/\(∀k∈hs,k<ps.length)/\(∀k,k∈hs↔∃j∈ks.take i,∃ds e,ps[j]?=some (ds,e)/\k∈aV e/\k<=j)/\(∀c o,H2 c=some o->c≠fd->H' c=some o)) ?_ ?_ ?_ ?_⟩
  ·exact⟨[],[],_,_,rfl,hf2,rfl,Hi,(fun _ h=>nomatch h),fun k=>⟨fun h=>(nomatch h),fun ⟨j,hj,_⟩=>(by simp at hj)⟩,fun c o h _=>h⟩
  ·rintro i Gf H3 hi ⟨hs,kvs,u1,u2,rfl,h1,hk1,h2,h3,h4,h5⟩
   exact aO.of (h5 _ _ ht ntf)
  ·rintro i y Gf H3 hi ⟨hs,kvs,u1,u2,rfl,h1,hk1,h2,h3,h4,h5⟩
   obtain⟨at_,hat,rfl⟩:∃k,ks[i]?=some k/\y=V.int (k:Nat):=by
    rw [Gz] at hi
    cases z:ks[i]? with
    | none=>rw [z] at hi;cases hi
    | some k=>rw [z] at hi;exact⟨k,rfl,(Gy.inj hi).symm⟩
   have hatl:=hlt at_ (GB hat)
   have hps:ps[at_]?=some ps[at_]:=by simp [hatl]
   generalize ps[at_]=pce at hps
   obtain⟨ds,e⟩:=pce
   obtain⟨p',xs',pc,da,ea,wsv,ep,e1',el',hx',e2,e3,r3,e4⟩:=fh hp hps
   cases ep
   rw [e1] at e1'
   cases e1'
   have k3:∀p zs,H p=some (.tup zs)->H3 p=some (.tup zs):=fun p zs h=>h5 _ _ (s12 _ _ h) (bw (s12 _ _ h) hf2 (by intro z;cases z))
   refine bJ ?_
   refine⟨_,rfl,_,rfl,pp,_,_,_,rfl,rfl,av.of (k3 _ _ e1),bS hx',pc,_,1,_,rfl,rfl,av.of (k3 _ _ e2),dA,ea,e,rfl,k3 _ _ e4,fun wt H5 nwt hwt s5=>?_⟩
   have nwf:wt≠fd:=bw hwt (s5 _ _ h1) (by intro z;cases z)
   refine⟨wt,rfl,⟨_,aO.of hwt⟩,ig (K:=K) (a:=wt) (xs:=vN (aV e)) (fun j Gf H'=>∃(hs':List Nat) (kvs:List (Key×V)) (u2:Option V),Gf=[some (.ref pp),some (.ref fd),some (.int (at_:Nat)),u2]/\H' fd=some (.dK kvs)/\kvs.map (·.1)=kI hs'/\hs'.Nodup/\(∀k∈hs',k<ps.length)/\(∀k,k∈hs'↔k∈hs\/(k∈(aV e).take j/\k<=at_))/\(∀c o,H5 c=some o->c≠fd->H' c=some o)) ?_ ?_ ?_ ?_⟩
   ·exact⟨hs,kvs,_,rfl,s5 _ _ h1,hk1,h2,h3,fun k=>⟨.inl,fun h=>h.elim id fun ⟨z,_⟩=>(by simp at z)⟩,fun c o h _=>h⟩
   ·rintro j Gf H6 hj ⟨hs',kvs',u2,rfl,g1,gk,g2,g3,g4,g5⟩
    exact aO.of (g5 _ _ hwt nwf)
   ·rintro j y Gf H6 hj ⟨hs',kvs',u2,rfl,g1,gk,g2,g3,g4,g5⟩
    obtain⟨k0,hk0,rfl⟩:∃k,(aV e)[j]?=some k/\y=V.int (k:Nat):=by
     rw [Gz] at hj
     cases z:(aV e)[j]? with
     | none=>rw [z] at hj;cases hj
     | some k=>rw [z] at hj;exact⟨k,rfl,(Gy.inj hj).symm⟩
    have hk0m:=GB hk0
    have hk0b:=nB hin hps k0 hk0m
    have htk:(aV e).take (j+1)=(aV e).take j++[k0]:=by rw [GN,hk0];rfl
    have hkl':kvs'.length=hs'.length:=by have:=congrArg Hb gk;simpa using this
    refine bJ ?_
    refine⟨_,rfl,_,rfl,_,_,rfl,rfl,_,rfl,?_⟩
    refine dh (fun hc=>?_) (fun hc=>?_)
    ·have hle:k0<=at_:=by have:=of_decide_eq_true hc;omega
     have hfew:=d9 g2 g3
     refine⟨_,rfl,_,rfl,fd,_,rfl,gW.k (k:=Sum.inl (k0:Int)) g1 (bC (by omega)),?_⟩
     refine⟨LS.putIn hs' k0,_,_,rfl,aa,?_,uz g2,fun k hk=>?_,fun k=>?_,fun c o h c1=>by rw [ao c1];exact g5 c o h c1⟩
     ·rw [<-uL]
      unfold LS.putIn
      rcases mi (kvs:=kvs') (k:=(Sum.inl (k0:Int):Key)) (v:=.bl true) with ⟨e1,hm⟩ | ⟨e1,hn'⟩
      ·rw [gk] at hm
       rw [if_pos hm,e1,gk]
      ·rw [gk] at hn'
       rw [if_neg hn',e1,gk]
     ·rcases LS.eR.mp hk with hk | hk
      ·exact g3 k hk
      ·rw [hk];exact hk0b
     ·rw [LS.eR,g4,htk]
      constructor
      ·rintro ((h | ⟨h,h'⟩) | rfl)
       ·exact .inl h
       ·exact .inr ⟨GV _ h,h'⟩
       ·exact .inr ⟨GS _ (Gk.mpr rfl),hle⟩
      ·rintro (h | ⟨h,h'⟩)
       ·exact .inl (.inl h)
       ·rcases Gw.mp h with h | h
        ·exact .inl (.inr ⟨h,h'⟩)
        ·exact .inr (Gk.mp h)
    ·have hle:¬k0<=at_:=fun z=>hc (decide_eq_true (by omega))
     refine⟨hs',kvs',_,rfl,g1,gk,g2,g3,fun k=>?_,g5⟩
     rw [g4,htk]
     constructor
     ·rintro (h | ⟨h,h'⟩)
      ·exact .inl h
      ·exact .inr ⟨GV _ h,h'⟩
     ·rintro (h | ⟨h,h'⟩)
      ·exact .inl h
      ·rcases Gw.mp h with h | h
       ·exact .inr ⟨h,h'⟩
       ·rw [Gk.mp h] at h';exact absurd h' hle
   ·rintro Gf H6 ⟨hs',kvs',u2,rfl,g1,gk,g2,g3,g4,g5⟩
    rw [show (vN (aV e)).length=(aV e).length from Gi ..,GR] at g4
    refine⟨hs',kvs',_,_,rfl,g1,gk,g2,g3,fun k=>?_,fun c o h c1=>g5 c o (s5 _ _ (h5 c o h c1)) c1⟩
    rw [g4,h4,GN,hat]
    constructor
    ·rintro (⟨j,hj,r⟩ | ⟨h,h'⟩)
     ·exact⟨j,GV _ hj,r⟩
     ·exact⟨at_,GS _ (Gk.mpr rfl),ds,e,hps,h,h'⟩
    ·rintro⟨j,hj,ds',e',hp',h,h'⟩
     rcases Gw.mp hj with hj | hj
     ·exact .inl ⟨j,hj,ds',e',hp',h,h'⟩
     ·have hj:j=at_:=Gk.mp hj
      subst hj
      rw [hps] at hp'
      cases hp'
      exact .inr ⟨h,h'⟩
  ·rintro Gf H3 ⟨hs,kvs,u1,u2,rfl,h1,hk1,h2,h3,h4,h5⟩
   rw [show (vN ks).length=ks.length from Gi ..,GR] at h4
   have hfew:=d9 h2 h3
   refine⟨_,rfl,fd,kvs,hs.map (fun k:Nat=>(k:Int)),rfl,h1,(by rw [hk1,rn]),(by rw [Gi];omega),fun l ss hperm nl=>?_⟩
   obtain⟨ms,rfl,hms⟩:=hR hperm
   rw [<-mE]
   have s3:af H H3:=fun c o h=>h5 c o (s12 c o h) (ar h nfd)
   refine q l ms _ aa (fun k=>(hms.mem_iff).trans ((h4 k).trans ?_)) (by rw [hms.length_eq];omega) (s3.trans (af.new nl))
   constructor
   ·rintro⟨j,hj,ds,e,r1,r2,r3⟩
    exact⟨j,ds,e,(hks j).mp hj,r1,r2,r3⟩
   ·rintro⟨j,ds,e,hj,r1,r2,r3⟩
    exact⟨j,(hks j).mpr hj,ds,e,r1,r2,r3⟩
theorem qK {f:Addr} {fd:FuncData} (F:b0 K "_law_table_of" "_law_table_of" iB f fd) (Z:Bl mg)  : bA P w K mg base bX 1 f fd ["facts"] sH:=by
 refine F.ok (k:=0) fG (fun vs H Q E h=>?_) (fun cdv A outer s H vs Q E hr h=>?_)
 ·obtain⟨fv,T,m,rfl,_⟩:=h
  rfl
 ·obtain⟨fv,T,m,rfl,hf,cX,hm,q⟩:=h
  refine⟨_,(ae (aJ (i:=1) fG.nd iq)
   (ae (cW PassesOwn.never rfl (er (pv 0)) (cZ rfl (bc (aN (i:=2) fG.nd) (bc (aN (i:=3) fG.nd) cC)))
   (ah (fC (dM hr) (pv 1) (pv 2) (pv 3) rfl)))
   (ah (aF (pv 1))))),?_⟩
  obtain⟨p,xs,ss,rfl,hp,srt,hss,r⟩:=hf
  have hl:=r.len
  rw [Gi] at hl
  have hsl:ss.length<=m:=cX ss (fun x hx=>(hss x).mp hx) srt.nd
  refine fun d nd=>?_
  have s0:=af.new (o:=.dK []) nd
  refine⟨_,rfl,p,rfl,⟨_,av.of (s0 _ _ hp)⟩,fB (K:=K) (a:=p) (xs:=xs) (fun i Gf H'=>∃(kvs:List (Key×V)) (ks:List Str) (u1 u2:Option V),Gf=[some (.ref p),some (.ref d),u1,u2]/\H' d=some (.dK kvs)/\Tb 0 H' kvs ks (kP T (ss.take i))/\(∀x,x∈ks↔x∈ss.take i)/\ks.length<=i/\af H H') ?_ ?_ ?_ ?_⟩
  ·refine⟨[],[],_,_,rfl,aa,⟨rfl,Hi,fun x=>.inl ⟨rfl,?_,by simp⟩⟩,fun x=>by simp,Gj _,s0⟩
   unfold kP
   rw [if_neg (by simp)]
  ·rintro i Gf H1 hi ⟨kvs,ks,u1,u2,rfl,h1,h2,h3,h4,s1⟩
   exact av.of (s1 _ _ hp)
  ·rintro i y Gf H1 hi ⟨kvs,ks,u1,u2,rfl,h1,h2,h3,h4,s1⟩
   have hil:i<ss.length:=by have:=(GH.mp hi).1;omega
   have hsi:ss[i]?=some ss[i]:=by simp [hil]
   generalize ss[i]=x at hsi
   obtain⟨v,hv,rv⟩:=r.get (i:=i) (d:=dF T x) (by rw [Gz,hsi];rfl)
   rw [hi] at hv
   cases hv
   obtain⟨qa,qvs,rfl,hqa,rq⟩:=aX.bP rv
   obtain⟨y1,t1,rfl,q1,rq⟩:=rq.cons_inv
   obtain⟨y2,t2,rfl,q2,rq⟩:=rq.cons_inv
   have z:=rq.nil_inv
   subst z
   have ey1:=q1.str_inv
   subst ey1
   refine⟨qa,_,rfl,av.of (s1 _ _ hqa),rfl,_,_,rfl,_,_,rfl,rfl,?_⟩
   have kl:kvs.length=ks.length:=by have:=congrArg Hb h2.keys;simpa using this
   obtain⟨sp,rfl,hsp⟩:=A5 q2
   refine⟨_,rfl,_,rfl,_,rfl,d,_,rfl,gW.k (k:=Sum.inr x) h1 (bC (by omega)),?_⟩
   obtain⟨ks2,tb2,kl2,km2⟩:=h2.put x (v:=.ref sp) (s:=T x) (.inl ⟨sp,rfl,s1 _ _ hsp⟩)
   rw [uP] at tb2
   have htk:ss.take (i+1)=ss.take i++[x]:=by rw [GN,hsi];rfl
   refine⟨_,ks2,_,_,rfl,aa,?_,fun y=>?_,by omega,s1.put nd⟩
   ·rw [htk]
    exact tb2.aK fun p zs e=>by rw [ao (bw e h1 (by intro z;cases z))];exact e
   ·rw [km2,h3,htk,Gw,Gk]
  ·rintro Gf H1 ⟨kvs,ks,u1,u2,rfl,h1,h2,h3,h4,s1⟩
   rw [hl,GR] at h2 h3
   rw [uQ hss] at h2
   exact⟨_,rfl,q d H1 ⟨kvs,ks,h1,h2,fun x hx=>(hss x).mp ((h3 x).mp hx),by omega⟩ s1⟩
theorem vb {f:Addr} {fd:FuncData} (F:b0 K "_law_piece" "_law_piece" j1 f fd) (Z:Bl mg)  : bA P w K mg base bX 1 f fd ["piece", "numbers"] uR:=by
 refine F.ok (k:=0) jB (fun vs H Q E h=>?_) (fun cdv A outer s H vs Q E hr h=>?_)
 ·obtain⟨pc,da,ea,nl,ws,ds,e,ns,rfl,_⟩:=h
  rfl
 ·obtain⟨pc,da,ea,nl,ws,ds,e,ns,rfl,hpc,hda,rds,hea,hnl,hns,q⟩:=h
  refine⟨_,(ae (dG (pv 0) (cZ rfl (bc (aN (i:=2) jB.nd) (bc (aN (i:=3) jB.nd) cC))))
   (ae (bg (aH (tW hr.units) (pv 1) (bZ bQ) (aP _))
   (ah (aF (aB (ay (pv 2) (aB (au ba))))))
   aM)
   (ae (bg (aH cx (aT aU rfl Z.len bV (au (pv 1))) ai (aP _))
   (ah (aF (aB (ay (pv 2) (aB (ay ba (aG cg (pv 1) ai)))))))
   aM)
   (ah (aF (aB (ay (pv 2) (aY wc (ky nj (pv 3) m7 (m8 ai)) (aB (ay (aG cg (pv 1) ai) (aG cg (pv 1) ai))))))))))),?_⟩
  refine⟨_,rfl,pc,_,rfl,av.of hpc,rfl,_,_,rfl,_,_,rfl,rfl,?_⟩
  have mkp:∀(H3:Hp) (t tt:Addr) (e':L2.End),af H H3->H3 t=some (.tup (eJ e'))->e' = iu e ns->H3 tt=none->Q (.ref tt) (upd H3 tt (.tup [.ref da,.ref t])):=fun H3 t tt e' s3 ht ee nt=>by
   subst ee
   have q4:=af.new (o:=.tup [.ref da,.ref t]) nt
   exact q (.ref tt) _ (.tup aa (.cons (.tup (q4 _ _ (s3 _ _ hda)) (rds.same (s3.trans q4) (cU ds))) (.cons (zk (q4 _ _ ht)) .nil))) (s3.trans q4)
  refine⟨_,rfl,(by show 0<=sizeLine;decide),fun l0 n0=>?_⟩
  have s0:=af.new (o:=.lst []) n0
  have h0:(upd H l0 (.lst [])) l0=some (.lst []):=aa
  generalize (upd H l0 (.lst []))=H1 at s0 h0
  have hnl1:=s0 _ _ hnl
  have lay:(PyData.list (ns.map uA)).canLay0=true:=by
   have:∀l:List Nat,(PyData.list (l.map uA)).canLay0=true:=by
    intro l
    induction l with
    | nil=>rfl
    | cons a l ih=>show (true&&(PyData.list (l.map uA)).canLay0)=true;rw [ih];rfl
   exact this ns
  refine⟨.list (ns.map uA),.list [],.lst hnl1 (uB ns),.lst h0 .nil,lay,rfl,(by have:(PyData.list []).depth<=1:=Gj 1;omega),_,rfl,?_⟩
  match ns,hns,hnl1,mkp with
  | [],hns,hnl1,mkp =>
   refine bY rfl ?_
   refine⟨_,rfl,tV,fun t nt=>⟨ln2,fun tt ntt=>mkp _ t tt .stop (s0.trans (af.new nt)) aa ?_ ntt⟩⟩
   cases e with
   | stop=>rfl
   | go p=>exact absurd (hns.resolve_left (by decide)) (by show ¬0=1;decide)
   | cF b x n p r=>exact absurd (hns.resolve_left (by decide)) (by show ¬0=2;decide)
  | [a],hns,hnl1,mkp =>
   refine bh rfl ?_
   refine⟨_,rfl,nl,_,rfl,.inl (aO.of hnl1),rfl,_,rfl,bY (decide_eq_true rfl) ?_⟩
   exact⟨_,rfl,_,rfl,nl,_,0,_,rfl,rfl,aO.of hnl1,cJ,ln2,fun t nt=>⟨ln2,fun tt ntt=>mkp _ t tt (.go a) (s0.trans (af.new nt)) aa rfl ntt⟩⟩
  | [a,c],hns,hnl1,mkp =>
   refine bh rfl ?_
   refine⟨_,rfl,nl,_,rfl,.inl (aO.of hnl1),rfl,_,rfl,bh (show decide (V.int ((2:Nat):Int)=V.int 1)=false by decide +kernel) ?_⟩
   have hns:=hns.resolve_left (by show ¬2=1;decide)
   cases e with
   | stop=>exact absurd hns (by show ¬2=0;decide)
   | go p=>exact absurd hns (by show ¬2=1;decide)
   | cF b x n p r =>
    refine⟨_,rfl,_,rfl,_,rfl,xO (e:=.cF b x n p r) (s0 _ _ hea) fun t H2 ht s2=>?_⟩
    have hnl2:=s2 _ _ hnl1
    refine⟨_,rfl,nl,_,0,_,rfl,rfl,aO.of hnl2,cJ,_,rfl,nl,_,1,_,rfl,rfl,aO.of hnl2,dA,ln2,fun t2 nt2=>?_⟩
    have q2:=af.new (o:=.tup [.int (a:Nat),.int (c:Nat)]) nt2
    refine⟨t,t2,_,_,rfl,rfl,q2 _ _ ht,aa,(by show 5<=sizeLine;decide),fun t3 H3 ht3 s3=>⟨ln2,fun tt ntt=>mkp H3 t3 tt (.cF b x n a c) (((s0.trans s2).trans q2).trans s3) ht3 rfl ntt⟩⟩
  | _::_::_::_,hns,hnl1,mkp =>
   exfalso
   have h3:(aV e).length<=2:=by cases e <;> (show _<=2) <;> simp [aV]
   simp only [G0] at hns
   omega
theorem tu {f:Addr} {fd:FuncData} (F:b0 K "_law_copies" "_law_copies" jC f fd) (Z:Bl mg) (O_law_heads:Own P w K mg base "_law_heads" 4 ["plan"] uO) (O_law_all_names:Own P w K mg base "_law_all_names" 1 ["plan"] zu) (O_law_told:Own P w K mg base "_law_told" 1 ["facts"] wA) (O_law_piece:Own P w K mg base "_law_piece" 1 ["piece", "numbers"] uR) (O_law_table_of:Own P w K mg base "_law_table_of" 1 ["facts"] sH) (O_law_behind:Own P w K mg base "_law_behind" 2 ["facts", "deeds"] zq) (O_law_leads:Own P w K mg base "_law_leads" 3 ["facts", "end"] uF):bA P w K mg base bX 6 f fd ["plan", "most"] qB:=by
  refine F.ok (k:=5) bK (fun vs H Q E h=>?_) (fun cdv A outer s H vs Q E hr h=>?_)
  . obtain⟨plv,ps,xs,most,rfl,_⟩:=h
    rfl
  . obtain⟨plv,ps,xs,most,rfl,hp,pok,nok,hx10,hn0,hn,hm1,hm3,q⟩:=h
    refine⟨_,(ae (aJ (i:=2) bK.nd (aI O_law_heads hr (au (pv 0))))
      (ae (aJ (i:=3) bK.nd (bZ bQ))
      (ae (aJ (i:=4) bK.nd (bZ bQ))
      (ae (aJ (i:=5) bK.nd iq)
      (ae (cW PassesOwn.never rfl (fA (aI O_law_all_names hr (au (pv 0)))) (aN (i:=6) bK.nd)
      (ah (fC (dM hr) (pv 5) (pv 6) (aB (ay ai ai)) rfl)))
      (ae (aJ (i:=7) bK.nd (bZ (au (aB (ay ai (pv 5))))))
      (ae (aJ (i:=8) bK.nd (bZ bQ))
      (ae (aJ (i:=9) bK.nd (Et Dh ai))
      (ae (jd PassesOwn.never (aH gy (pv 9) (aT aU rfl Z.len bV (au (pv 3))) (aP _))
      (ae (aJ (i:=8) bK.nd (bZ bQ))
      (ae (cW PassesOwn.never rfl (fA (pv 7)) (cZ rfl (bc (aN (i:=10) bK.nd) (bc (aN (i:=11) bK.nd) cC)))
      (ae (dQ (aJ (i:=12) bK.nd (aB (ay (pv 10) (aI O_law_told hr (au (aG cg (bZ (ay (pv 11) iq)) (bE jF rfl Z.int ma (au (gG jG (pv 10) (pv 2) (by with_unfolding_all rfl)))))))))))
      (ae (dQ (bg (PW.pt (iI (aH (qo (mI hr)) (pv 12) (pv 3) (by with_unfolding_all rfl)) (ie (aH w9 (aT aU rfl Z.len bV (au (pv 3))) (pv 1) (aP _)))))
      (ah (aJ (i:=12) bK.nd (aB (ay (pv 10) (aB bQ)))))
      aM))
      (ae (dQ (bg (aH (qo (mI hr)) (pv 12) (pv 3) (by with_unfolding_all rfl))
      (ah (cf (df PySem.F.plainAttrs_list PySem.F.slot_list_append PySem.F.type_list_append bU (pv 3) (au (pv 12)))))
      aM))
      (ah (cf (df PySem.F.plainAttrs_list PySem.F.slot_list_append PySem.F.type_list_append bU (pv 8) (au (df PySem.F.plainAttrs_list PySem.F.slot_list_index PySem.F.type_list_index (zw (mI hr)) (pv 3) (bH (pv 12) bQ))))))))))
      (ae (dQ (bg (aH w9 (pv 9) ai (aP _))
      (ah (cf (df PySem.F.plainAttrs_list PySem.F.slot_list_append PySem.F.type_list_append bU (pv 4) (au (aI O_law_piece hr (ay (aG bf (pv 0) (aG bf (aG cg (pv 3) (pv 9)) ai)) (pv 8)))))))
      aM))
      (ae (aJ (i:=9) bK.nd (aY bR (pv 9) ai))
      (ah (bg (aH gy (pv 9) (aT aU rfl Z.len bV (au (pv 3))) (aP _))
      (ae (dG (aG bf (pv 0) (aG bf (aG cg (pv 3) (pv 9)) ai)) (cZ rfl (bc (aN (i:=13) bK.nd) (bc (aN (i:=14) bK.nd) cC))))
      (ae (aJ (i:=11) bK.nd (aI O_law_behind hr (ay (aI O_law_table_of hr (au (aG bf (aG cg (pv 3) (pv 9)) ai))) (pv 13))))
      (ah (il (i:=7) ["side", "piece", "more"] [] [] rfl bK.nd rfl rfl rfl (fA (aI O_law_leads hr (ay (pv 11) (pv 14)))) rfl (by decide +kernel) (by decide +kernel) (by decide +kernel) True.intro (fun _ _ _ _=>(qQ (K:=K) (n:=3) rfl (cZ (n:=3) rfl (bc (aN (i:=0) (show ((["side", "piece", "more"]:List Str)++([]:List Str)).Nodup by decide +kernel) (hf:=GQ rfl)) (bc (aN (i:=1) (show ((["side", "piece", "more"]:List Str)++([]:List Str)).Nodup by decide +kernel) (hf:=GQ rfl)) (bc (aN (i:=2) (show ((["side", "piece", "more"]:List Str)++([]:List Str)).Nodup by decide +kernel) (hf:=GQ rfl)) cC)))))) (fun _ _ _ _=>eX) (fun _ _ _ _=>(aB (ay (pv 1) (pv 2))))))))
      aM)))))))
      (ah (aF (aB (ay (bE bF rfl Z.tuple cb (au (pv 4))) (bE bF rfl Z.tuple cb (au (pv 3)))))))))))))))),?_⟩
    obtain⟨pp,vs,rfl,e1,r1⟩:=aX.bP hp
    have hvl:=r1.len
    rw [Gi] at hvl
    have hin:=pok.yR
    refine⟨_,rfl,_,ps,rfl,hp,hin,hn0,hn,fun tp hs H1 htp hhs hsl s1=>?_⟩
    refine⟨(by show 0<=sizeLine;decide),fun fl nfl=>?_⟩
    have s2:=af.new (o:=.lst []) nfl
    have hf2:(upd H1 fl (.lst [])) fl=some (.lst []):=aa
    generalize (upd H1 fl (.lst []))=H2 at s2 hf2
    refine⟨(by show 0<=sizeLine;decide),fun pz npz=>?_⟩
    have s3:=af.new (o:=.lst []) npz
    have hz3:(upd H2 pz (.lst [])) pz=some (.lst []):=aa
    have hf3:=s3 _ _ hf2
    generalize (upd H2 pz (.lst []))=H3 at s3 hz3 hf3
    refine fun bd nbd=>?_
    have s4:=af.new (o:=.dK []) nbd
    have hb4:(upd H3 bd (.dK [])) bd=some (.dK []):=aa
    generalize (upd H3 bd (.dK []))=H4 at s4 hb4
    have s14:=((s1.trans s2).trans s3).trans s4
    refine⟨_,rfl,_,ps,xs,6,rfl,hp.same s14 (dN ps),pok,(by omega),fun nl ss H5 hnl hperm hsort hss s5=>?_⟩
    have hm:∀x,x∈ss↔x∈bp ps:=fun x=>hperm.mem_iff.trans LS.jK
    have hsT:∀x,x∈ss↔startT ps x≠cQ:=fun x=>by
      rw [hm]
      unfold L2.startT
      by_cases h:x∈bp ps
      . rw [if_pos h];exact⟨fun _ z=>(by cases z),fun _=>h⟩
      . rw [if_neg h];exact⟨fun z=>absurd z h,fun z=>absurd rfl z⟩
    have hss10:ss.length<=10:=by
      have h1:=hperm.length_eq
      have h2:=oU pok
      omega
    have hb5:=s5 _ _ hb4
    have nlb:nl≠bd:=bw hnl hb5 (by intro z;cases z)
    refine⟨nl,rfl,⟨_,aO.of hnl⟩,ig (K:=K) (a:=nl) (xs:=ss.map V.str) (fun i Gf H'=>∃(kvs:List (Key×V)) (ks:List Str) (u:Option V),Gf=[some (.ref pp),some (.int (most:Nat)),some (.ref tp),some (.ref fl),some (.ref pz),some (.ref bd),u,none,none,none,none,none,none,none,none]/\H' bd=some (.dK kvs)/\Tb 0 H' kvs ks (kP (startT ps) (ss.take i))/\(∀x,x∈ks↔x∈ss.take i)/\ks.length<=i/\(∀c o,H5 c=some o->c≠bd->H' c=some o)) ?_ ?_ ?_ ?_⟩
    . refine⟨[],[],_,rfl,hb5,⟨rfl,Hi,fun x=>.inl ⟨rfl,?_,by simp⟩⟩,fun x=>by simp,Gj _,fun c o h _=>h⟩
      unfold kP
      rw [if_neg (by simp)]
    . rintro i Gf H6 hi ⟨kvs,ks,u,rfl,h1,h2,h3,h4,h5⟩
      exact aO.of (h5 _ _ hnl nlb)
    . rintro i y Gf H6 hi ⟨kvs,ks,u,rfl,h1,h2,h3,h4,h5⟩
      obtain⟨x,hsi,rfl⟩:∃x,ss[i]?=some x/\y=V.str x:=by
        rw [Gz] at hi
        cases e:ss[i]? with
        | none=>rw [e] at hi;cases hi
        | some k=>rw [e] at hi;exact⟨k,rfl,(Gy.inj hi).symm⟩
      have hil:i<ss.length:=(GH.mp hsi).1
      have kl:kvs.length=ks.length:=by have:=congrArg Hb h2.keys;simpa using this
      refine bJ ?_
      refine⟨ln2,fun t nt=>?_⟩
      have q7:=af.new (o:=.tup [.int 0,.int 0]) nt
      have ht7:(upd H6 t (.tup [.int 0,.int 0])) t=some (.tup [.int 0,.int 0]):=aa
      have h17:=q7 _ _ h1
      have tb7:=h2.aK (H':=upd H6 t (.tup [.int 0,.int 0])) fun p zs e=>q7 _ _ e
      generalize (upd H6 t (.tup [.int 0,.int 0]))=H7 at q7 ht7 h17 tb7
      refine⟨_,rfl,_,rfl,bd,_,rfl,gW.k (k:=Sum.inr x) h17 (bC (by omega)),?_⟩
      have hxa:startT ps x=(some 0,some 0):=by unfold L2.startT;rw [if_pos ((hm x).mp (GB hsi))]
      obtain⟨ks2,tb2,kl2,km2⟩:=tb7.put x (v:=.ref t) (s:=startT ps x) (.inl ⟨t,rfl,by rw [hxa];exact ht7⟩)
      rw [uP] at tb2
      have htk:ss.take (i+1)=ss.take i++[x]:=by rw [GN,hsi];rfl
      refine⟨_,ks2,_,rfl,aa,?_,fun y=>?_,by omega,fun c o h c1=>by rw [ao c1];exact q7 _ _ (h5 c o h c1)⟩
      . rw [htk]
        exact tb2.aK fun p zs e=>by rw [ao (bw e h17 (by intro z;cases z))];exact e
      . rw [km2,h3,htk,Gw,Gk]
    rintro Gf H6 ⟨kvs,ks,u,rfl,h1,h2,h3,h4,h5⟩
    rw [show (ss.map V.str).length=ss.length from Gi ..,GR] at h2 h3
    rw [show (ss.map V.str).length=ss.length from Gi ..] at h4
    rw [uQ hsT] at h2
    have lt6:LT H6 bd (startT ps) 10:=⟨kvs,ks,h1,h2,fun x hx=>(hsT x).mp ((h3 x).mp hx),by omega⟩
    refine⟨_,rfl,ln2,fun wt nwt=>⟨tV,fun wl nwl=>?_⟩⟩
    have q7:=af.new (o:=.tup [.int 0,.ref bd]) nwt
    have q8:=af.new (o:=.lst [.ref wt]) nwl
    have hw8:(upd (upd H6 wt (.tup [.int 0,.ref bd])) wl (.lst [.ref wt])) wl=some (.lst [.ref wt]):=aa
    have ht8:=q8 _ _ (aa:(upd H6 wt (.tup [.int 0,.ref bd])) wt=some (.tup [.int 0,.ref bd]))
    have lt8:=(lt6.same q7).same q8
    have s68:=q7.trans q8
    generalize (upd (upd H6 wt (.tup [.int 0,.ref bd])) wl (.lst [.ref wt]))=H8 at q8 hw8 ht8 lt8 s68
    refine⟨(by show 0<=sizeLine;decide),fun nb0 nnb0=>?_⟩
    have q9:=af.new (o:=.lst []) nnb0
    have s13:=(s1.trans s2).trans s3
    have nbdH:H bd=none:=s13.free nbd
    have nflH:H fl=none:=s1.free nfl
    have npzH:H pz=none:=(s1.trans s2).free npz
    have k36:∀c o,H3 c=some o->H6 c=some o:=fun c o e=>h5 c o (s5 _ _ (s4 _ _ e)) (ar e nbd)
    have s6:af H H6:=fun c o e=>k36 c o (s13 c o e)
    have hf6:=k36 _ _ hf3
    have hz6:=k36 _ _ hz3
    have htp6:=k36 _ _ (s3 _ _ (s2 _ _ htp))
    have nfp:fl≠pz:=ar hf2 npz
    have ntf:tp≠fl:=ar htp nfl
    have ntz:tp≠pz:=ar (s2 _ _ htp) npz
    have nwf:wl≠fl:=(ar (q7 _ _ hf6) nwl).symm
    have nwz:wl≠pz:=(ar (q7 _ _ hz6) nwl).symm
    have s69:=s68.trans q9
    have hw9:=q9 _ _ hw8
    have ht9:=q9 _ _ ht8
    have lt9:=lt8.same q9
    generalize (upd H8 nb0 (.lst []))=H9 at q9 s69 hw9 ht9 lt9
    have sok:=kN pok
    have c0ok:(gr ps).1<ps.length/\cT xs (gr ps).2:=by
      unfold gr
      split
      . exact⟨hn0,cT.zero⟩
      . exact⟨hn0,sok⟩
    refine⟨_,rfl,?_⟩
    refine⟨fun fu Gf H'=>∃(fvs:List V) (fds:List PyData) (cs ls:List Cp) (zs:List V) (outs:List Piece) (wl:Addr) (wvs:List V) (at_:Int) (u0 u1 u2 u3 u4 u5 u6:Option V),Gf=[some (.ref pp),some (.int (most:Nat)),some (.ref tp),some (.ref fl),some (.ref pz),some (.ref bd),u0,some (.ref wl),u1,some (.int at_),u2,u3,u4,u5,u6]/\H' tp=some (.lst (vN hs))/\H' fl=some (.lst fvs)/\bu H' fvs fds/\Paired (fun d c=>CD c d) fds cs/\fZ ps.length most cs/\(∀c∈cs,c.1<ps.length/\cT xs c.2)/\H' pz=some (.lst zs)/\bu H' zs (outs.map bW)/\H' wl=some (.lst wvs)/\sI 17 H' wvs ls/\(∀c∈ls,c.1<ps.length/\cT xs c.2)/\ls.length<=2/\wl≠fl/\wl≠pz/\af H H'/\Ba ps most fu at_ cs outs ls,⟨_,[],[],[],[(0,startT ps)],[],[],wl,_,_,_,_,_,_,_,_,_,rfl,s69 _ _ htp6,s69 _ _ hf6,.nil,.nil,⟨Hi,GI _⟩,(fun c hc=>nomatch hc),s69 _ _ hz6,.nil,hw9,.cons ⟨wt,bd,rfl,ht9,lt9.mono (by decide)⟩ .nil,(fun c hc=>by rw [Gk.mp hc];exact⟨hn0,sok⟩),(by show 1<=2;decide),nwf,nwz,s6.trans s69,.inl ⟨rfl,rfl,rfl,rfl,rfl⟩⟩,?_⟩
    clear lt6 lt8 lt9 ht8 ht9 hw8 hw9 q7 q8 q9 s68 s69 htp6 hf6 hz6 nwf nwz h1 h2 h3 h4 nwt nwl nnb0 hsort hss
    rintro fu Gf H4 ⟨fvs,fds,cs,ls,zs,outs,wl,wvs,at_,u0,u1,u2,u3,u4,u5,u6,rfl,htp4,hf4,rf4,cc4,mP,hcs,hz4,rz4,hw4,wv4,lok,hl2,nwf,nwz,s4',way⟩
    have hfl4:fvs.length=cs.length:=by have:=rf4.len;rw [this];exact Paired.length cc4
    have hzl:zs.length=outs.length:=by have:=rz4.len;rw [Gi] at this;exact this
    have hwl4:wvs.length=ls.length:=Paired.length wv4
    have hcn:=mP.len fun c hc=>(hcs c hc).1
    refine⟨_,rfl,_,rfl,fl,_,rfl,.inl (aO.of hf4),_,_,rfl,rfl,_,rfl,?_⟩
    refine dh (fun hc=>?_) (fun hc=>?_)
    . have hlt:at_<fvs.length:=by have:=of_decide_eq_true hc;omega
      have hfu:0<fu:=way.pos (by omega) hcn
      refine⟨_,fun σ' H' h=>⟨fu-1,by omega,h⟩,?_⟩
      refine⟨(by show 0<=sizeLine;decide),fun nb nnb=>?_⟩
      have q5:=af.new (o:=.lst []) nnb
      have hnb:(upd H4 nb (.lst [])) nb=some (.lst []):=aa
      have nbf:nb≠fl:=(ar hf4 nnb).symm
      have nbz:nb≠pz:=(ar hz4 nnb).symm
      have nbw:nb≠wl:=(ar hw4 nnb).symm
      have nbt:nb≠tp:=(ar htp4 nnb).symm
      have nbH:H nb=none:=s4'.free nnb
      have htp5:=q5 _ _ htp4
      have hf5:=q5 _ _ hf4
      have rf5:=rf4.same q5 (fD cc4)
      have hz5:=q5 _ _ hz4
      have rz5:=rz4.same q5 (aS outs)
      have hw5:=q5 _ _ hw4
      have wv5:=wv4.mv (fun c o e=>q5 _ _ e) (fun c o e=>q5 _ _ e)
      have s5':=s4'.trans q5
      generalize (upd H4 nb (.lst []))=H5' at q5 hnb htp5 hf5 rf5 hz5 rz5 hw5 wv5 s5'
      refine⟨_,rfl,wl,rfl,⟨_,aO.of hw5⟩,ig (K:=K) (a:=wl) (xs:=wvs) (fun i Gf H'=>∃(fvs':List V) (fds':List PyData) (u2 u3 u4:Option V),Gf=[some (.ref pp),some (.int (most:Nat)),some (.ref tp),some (.ref fl),some (.ref pz),some (.ref bd),u0,some (.ref wl),some (.ref nb),some (.int at_),u2,u3,u4,u5,u6]/\H' fl=some (.lst fvs')/\bu H' fvs' fds'/\Paired (fun d c=>CD c d) fds' (aW (bo ps) most cs (ls.take i)).1/\H' nb=some (.lst (vN (aW (bo ps) most cs (ls.take i)).2))/\(∀c o,H5' c=some o->c≠fl->c≠nb->H' c=some o)) ?_ ?_ ?_ ?_⟩
      . exact⟨fvs,fds,_,_,_,rfl,hf5,rf5,cc4,hnb,fun c o e _ _=>e⟩
      . rintro i Gf H6' hi ⟨fvs',fds',v2,v3,v4,rfl,g1,g2,g3,g4,g5⟩
        exact aO.of (g5 _ _ hw5 nwf nbw.symm)
      . rintro i y Gf H6' hi ⟨fvs',fds',v2,v3,v4,rfl,g1,g2,g3,g4,g5⟩
        obtain⟨pr,hpr,qa,d,rfl,hq,ltd⟩:=fO wv5 hi
        obtain⟨k,U⟩:=pr
        obtain⟨hkl,hUok⟩:=lok _ (GB hpr)
        obtain⟨cok7,hcs7,hln7,_⟩:=fP (tops:=bo ps) (ls:=ls.take i) (ns:=[]) mP hcs fun c hc=>lok c (Ia hc)
        have hcn7:=fZ.len cok7 fun c hc=>(hcs7 c hc).1
        have hnx:aW (bo ps) most cs (ls.take (i+1))=(LS.putIn (aW (bo ps) most cs (ls.take i)).1 (br (bo ps) most (aW (bo ps) most cs (ls.take i)).1 (k,U)),(aW (bo ps) most cs (ls.take i)).2++[(LS.putIn (aW (bo ps) most cs (ls.take i)).1 (br (bo ps) most (aW (bo ps) most cs (ls.take i)).1 (k,U))).idxOf (br (bo ps) most (aW (bo ps) most cs (ls.take i)).1 (k,U))]):=oq (bo ps) most (cs:=cs) hpr
        have hil:i<ls.length:=(GH.mp hpr).1
        have hln7':(aW (bo ps) most cs (ls.take i)).2.length<=2:=by
          unfold aW
          rw [hln7,G9]
          show 0+_<=_
          omega
        change fZ ps.length most (aW (bo ps) most cs (ls.take i)).1 at cok7
        change ∀c∈(aW (bo ps) most cs (ls.take i)).1,_ at hcs7
        change (aW (bo ps) most cs (ls.take i)).1.length<=_ at hcn7
        rw [hnx]
        clear hnx hln7
        generalize (aW (bo ps) most cs (ls.take i)).1=cs' at g3 hcs7 cok7 hcn7
        generalize (aW (bo ps) most cs (ls.take i)).2=ns at g4 hln7'
        have kt6:∀p zs,H5' p=some (.tup zs)->H6' p=some (.tup zs):=fun p zs e=>g5 _ _ e (bw e hf5 (by intro z;cases z)) (bw e hnb (by intro z;cases z))
        have hq6:=kt6 _ _ hq
        have htp6:=g5 _ _ htp5 ntf nbt.symm
        have lt6:LT H6' d U 17:=by
          refine ltd.aK (fun o e=>?_) kt6
          obtain⟨kvs0,ks0,hd0,_⟩:=id ltd
          exact g5 _ _ e (bw hd0 hf5 (by intro z;cases z)) (bw hd0 hnb (by intro z;cases z))
        have hky:=nE g3 fun c hc=>(hcs7 c hc).2.lay nok
        have hcl7:fvs'.length=cs'.length:=by have:=g2.len;rw [this];exact Paired.length g3
        refine⟨qa,_,rfl,av.of hq6,rfl,_,_,rfl,_,_,rfl,rfl,?_⟩
        refine⟨fun σ' H'=>∃(v:V) (dd:PyData),σ' = [some (.ref pp),some (.int (most:Nat)),some (.ref tp),some (.ref fl),some (.ref pz),some (.ref bd),u0,some (.ref wl),some (.ref nb),some (.int at_),some (.int (k:Nat)),some (.ref d),some v,u5,u6]/\aX H' v dd/\CD (jv hs k U) dd/\af H6' H',?_,?_⟩
        . refine⟨_,rfl,_,rfl,fun e ne=>⟨ln2,fun l nl=>⟨_,rfl,_,rfl,tp,_,rfl,.inl (aO.of ((af.new nl) _ _ ((af.new ne) _ _ htp6))),rfl,ny _,.inr ⟨_,rfl,?_⟩⟩⟩⟩
          have q1:=af.new (o:=.dK []) ne
          have q2:=af.new (o:=.lst [.ref d,.ref e]) nl
          have he2:=q2 _ _ (aa:(upd H6' e (.dK [])) e=some (.dK []))
          rw [show (if false=true then !lL (.int (k:Nat)) (vN hs) else lL (.int (k:Nat)) (vN hs))=decide (k∈hs) from kn k hs]
          have fin:∀(v:V) (H':Hp) (T:Str->Sx),FV H' v T->af H6' H'->∀t,H' t=none->jv hs k U=(k,T)->∃(v_1:V) (dd:PyData),[some (V.ref pp),some (.int (most:Nat)),some (.ref tp),some (.ref fl),some (.ref pz),some (.ref bd),u0,some (.ref wl),some (.ref nb),some (.int at_),some (.int (k:Nat)),some (.ref d),some (V.ref t),u5,u6]=[some (V.ref pp),some (.int (most:Nat)),some (.ref tp),some (.ref fl),some (.ref pz),some (.ref bd),u0,some (.ref wl),some (.ref nb),some (.int at_),some (.int (k:Nat)),some (.ref d),some v_1,u5,u6]/\aX (upd H' t (.tup [.int (k:Nat),v])) v_1 dd/\CD (jv hs k U) dd/\af H6' (upd H' t (.tup [.int (k:Nat),v])):=fun v H' T fv s t nt el=>by
            obtain⟨fd,hfd,rd⟩:=fv.fd
            have q3:=af.new (o:=.tup [.int (k:Nat),v]) nt
            refine⟨_,.tuple [.int (k:Nat),fd],rfl,.tup aa (.cons (.int _) (.cons (rd.same q3 hfd.ic) .nil)),?_,s.trans q3⟩
            rw [el]
            exact⟨fd,hfd,rfl⟩
          by_cases hk:k∈hs
          . rw [if_pos (decide_eq_true hk)]
            refine⟨l,_,1,_,rfl,rfl,aO.of aa,dA,e,T0,rfl,⟨[],[],he2,⟨rfl,Hi,fun x=>.inl ⟨rfl,rfl,by simp⟩⟩,(fun x hx=>nomatch hx),GI _⟩,fun v H' fv s=>⟨ln2,fun t nt=>fin v H' T0 fv ((q1.trans q2).trans s) t nt (by unfold jv;rw [if_pos hk])⟩⟩
          . rw [if_neg (fun z=>hk (of_decide_eq_true z))]
            refine⟨l,_,0,_,rfl,rfl,aO.of aa,cJ,d,U,rfl,((lt6.same q1).same q2).mono (by decide),fun v H' fv s=>⟨ln2,fun t nt=>fin v H' U fv ((q1.trans q2).trans s) t nt (by unfold jv;rw [if_neg hk])⟩⟩
        rintro σ' H7 ⟨v,dd,rfl,rv,cdv,s7⟩
        have hf7:=s7 _ _ g1
        have rf7:=g2.same s7 (fD g3)
        have hok1:cT xs (jv hs k U).2:=by
          unfold jv
          split
          . exact cT.zero
          . exact hUok
        have hin7:=(cdv.mem g3).1
        have hcF:=zz (most:=most) (cs:=cs') (U:=U) (k:=k) hhs
        refine⟨fun σ' H'=>∃(v:V) (dd:PyData),σ' = [some (.ref pp),some (.int (most:Nat)),some (.ref tp),some (.ref fl),some (.ref pz),some (.ref bd),u0,some (.ref wl),some (.ref nb),some (.int at_),some (.int (k:Nat)),some (.ref d),some v,u5,u6]/\aX H' v dd/\CD (br (bo ps) most cs' (k,U)) dd/\af H6' H',?_,?_⟩
        . refine⟨_,rfl,_,rfl,fl,fvs',fds',dd,rfl,aO.of hf7,rf7,hky,rv,cdv.key (hok1.lay nok),_,rfl,?_⟩
          by_cases hm:jv hs k U∈cs'
          . refine bh (show (if true=true then !decide (dd∈fds') else decide (dd∈fds'))=false by rw [if_pos rfl,decide_eq_true (hin7.mpr hm)];rfl) (bN ?_)
            exact⟨v,dd,rfl,rv,by rw [hcF,if_pos (.inl hm)];exact cdv,s7⟩
          . refine bY (show (if true=true then !decide (dd∈fds') else decide (dd∈fds'))=true by rw [if_pos rfl,decide_eq_false (fun z=>hm (hin7.mp z))];rfl) ?_
            refine⟨_,rfl,fl,_,rfl,.inl (aO.of hf7),_,rfl,_,_,rfl,rfl,_,rfl,?_⟩
            refine dh (fun hc=>?_) (fun hc=>?_)
            . have hge:¬cs'.length<most:=by have:=of_decide_eq_true hc;omega
              refine⟨_,rfl,(by show 0<=sizeLine;decide),fun t1 n1=>⟨ln2,fun t2 n2=>?_⟩⟩
              have q2:=af.new (o:=.tup [.int (k:Nat),.ref t1]) n2
              exact⟨_,.tuple [.int (k:Nat),.tuple []],rfl,.tup aa (.cons (.int _) (.cons (.tup (q2 _ _ aa) .nil) .nil)),by rw [hcF,if_neg (fun z=>z.elim hm hge)];exact⟨_,FD.zero,rfl⟩,(s7.trans (af.new n1)).trans q2⟩
            . have hlt':cs'.length<most:=Nat.lt_of_not_le fun z=>hc (decide_eq_true (by omega))
              exact⟨v,dd,rfl,rv,by rw [hcF,if_pos (.inr hlt')];exact cdv,s7⟩
        clear rv cdv s7 hf7 rf7 hok1 hin7 v dd H7
        rintro σ' H7 ⟨v,dd,rfl,rv,cdv,s7⟩
        have hf7:=s7 _ _ g1
        have hnb7:=s7 _ _ g4
        have rf7:=g2.same s7 (fD g3)
        have hok1:cT xs (br (bo ps) most cs' (k,U)).2:=by
          unfold br
          split
          . exact cT.zero
          . split
            . exact hUok
            . exact cT.zero
        generalize br (bo ps) most cs' (k,U)=cn at cdv hok1
        have hin7:=(cdv.mem g3).1
        have kyd:=cdv.key (hok1.lay nok)
        refine⟨fun σ' H'=>∃(fvs2:List V) (fds2:List PyData),σ' = [some (.ref pp),some (.int (most:Nat)),some (.ref tp),some (.ref fl),some (.ref pz),some (.ref bd),u0,some (.ref wl),some (.ref nb),some (.int at_),some (.int (k:Nat)),some (.ref d),some v,u5,u6]/\H' fl=some (.lst fvs2)/\bu H' fvs2 fds2/\Paired (fun d c=>CD c d) fds2 (LS.putIn cs' cn)/\aX H' v dd/\(∀c o,H7 c=some o->c≠fl->H' c=some o),?_,?_⟩
        . refine⟨_,rfl,_,rfl,fl,fvs',fds',dd,rfl,aO.of hf7,rf7,hky,rv,kyd,_,rfl,?_⟩
          by_cases hm:cn∈cs'
          . refine bh (show (if true=true then !decide (dd∈fds') else decide (dd∈fds'))=false by rw [if_pos rfl,decide_eq_true (hin7.mpr hm)];rfl) ?_
            exact⟨fvs',fds',rfl,hf7,rf7,by unfold LS.putIn;rw [if_pos hm];exact g3,rv,fun c o e _=>e⟩
          . refine bY (show (if true=true then !decide (dd∈fds') else decide (dd∈fds'))=true by rw [if_pos rfl,decide_eq_false (fun z=>hm (hin7.mp z))];rfl) ?_
            refine⟨_,rfl,.inl ⟨rfl,_,aO.of hf7⟩,_,rfl,fl,_,_,rfl,rfl,hf7,bC (by omega),?_⟩
            have kt:∀p zs,H7 p=some (.tup zs)->(upd H7 fl (.lst (fvs' ++ [v]))) p=some (.tup zs):=fun p zs e=>by rw [ao (bw e hf7 (by intro z;cases z))];exact e
            exact⟨_,fds' ++ [dd],rfl,aa,bu.app (rf7.aK kt (fD g3)) (rv.aK kt cdv.ic),by unfold LS.putIn;rw [if_neg hm];exact d8 g3 (.cons cdv .nil),rv.aK kt cdv.ic,fun c o e c1=>by rw [ao c1];exact e⟩
        rintro σ' H8 ⟨fvs2,fds2,rfl,hf8,rf8,cc8,rv8,k8⟩
        have hnb8:=k8 _ _ hnb7 nbf
        have hky8:∀e∈fds2,eN e:=nE cc8 fun c hc=>by
          rcases LS.eR.mp hc with z | z
          . exact (hcs7 c z).2.lay nok
          . rw [z];exact hok1.lay nok
        obtain⟨hin8,hix8⟩:=cdv.mem cc8
        refine⟨_,rfl,.inl ⟨rfl,_,aO.of hnb8⟩,_,rfl,.inl ⟨rfl,_,aO.of hf8⟩,_,rfl,fl,fvs2,fds2,v,dd,rfl,rfl,hf8,rf8,hky8,rv8,kyd,hin8.mpr (LS.eR.mpr (.inr rfl)),nb,_,_,rfl,rfl,hnb8,bC (by rw [Gi];omega),?_⟩
        have kt9:∀p zs o,H8 p=some (.tup zs)->(upd H8 nb o) p=some (.tup zs):=fun p zs o e=>by rw [ao (bw e hnb8 (by intro z;cases z))];exact e
        refine⟨fvs2,fds2,_,_,_,rfl,by rw [ao nbf.symm];exact hf8,rf8.aK (fun p zs e=>kt9 p zs _ e) (fD cc8),cc8,?_,fun c o e c1 c2=>by rw [ao c2];exact k8 c o (s7 c o (g5 c o e c1 c2)) c1⟩
        rw [aa,hix8]
        show _=some (HO.lst ((ns++[_]).map _))
        rw [GF]
        rfl
      rintro Gf H7 ⟨fvs',fds',v2,v3,v4,rfl,g1,g2,g3,g4,g5⟩
      rw [hwl4,GR] at g3 g4
      obtain⟨cok7,hcs7,hln7,more,emore⟩:=fP (tops:=bo ps) (ls:=ls) (ns:=[]) mP hcs lok
      have hcn7:=fZ.len cok7 fun c hc=>(hcs7 c hc).1
      have hln7':(aW (bo ps) most cs ls).2.length=ls.length:=by unfold aW;rw [hln7];show 0+_=_;omega
      change fZ ps.length most (aW (bo ps) most cs ls).1 at cok7
      change ∀c∈(aW (bo ps) most cs ls).1,_ at hcs7
      change (aW (bo ps) most cs ls).1.length<=_ at hcn7
      change (aW (bo ps) most cs ls).1=_ at emore
      have hcl7:fvs'.length=(aW (bo ps) most cs ls).1.length:=by have:=g2.len;rw [this];exact Paired.length g3
      have k57:∀p zs,H5' p=some (.tup zs)->H7 p=some (.tup zs):=fun p zs e=>g5 _ _ e (bw e hf5 (by intro z;cases z)) (bw e hnb (by intro z;cases z))
      have s7:af H H7:=fun c o e=>g5 c o (s5' c o e) (ar e nflH) (ar e nbH)
      have hz7:=g5 _ _ hz5 nfp.symm nbz.symm
      have rz7:=rz5.aK k57 (aS outs)
      have htp7:=g5 _ _ htp5 ntf nbt.symm
      refine⟨fun σ' H'=>∃(zs':List V) (outs':List Piece),σ' = [some (.ref pp),some (.int (most:Nat)),some (.ref tp),some (.ref fl),some (.ref pz),some (.ref bd),u0,some (.ref wl),some (.ref nb),some (.int at_),v2,v3,v4,u5,u6]/\H' pz=some (.lst zs')/\bu H' zs' (outs'.map bW)/\(at_+1=outs'.length/\cy (bo ps) most ps (fu-1) (aW (bo ps) most cs ls).1 outs' = bL ps most/\fu-1+outs'.length=most+ps.length/\outs'.length<=(aW (bo ps) most cs ls).1.length)/\(∀c o,H7 c=some o->c≠pz->H' c=some o),?_,?_⟩
      . refine⟨_,rfl,_,_,rfl,rfl,_,rfl,?_⟩
        rcases way with ⟨w1,w2,w3,w4,w5⟩ | ⟨w1,w2,w3,w4,w5⟩
        . refine bh (decide_eq_false (by omega)) ?_
          subst w2 w3 w4
          have ef:=zy (ps:=ps) hm1
          rw [ef]
          exact⟨zs,[],rfl,hz7,rz7,⟨by rw [w1];rfl,by rw [w5];rfl,by rw [w5];rfl,GI _⟩,fun c o e _=>e⟩
        . refine bY (decide_eq_true (by omega)) ?_
          have hol:outs.length<cs.length:=by omega
          have hci:cs[outs.length]?=some cs[outs.length]:=by simp [hol]
          generalize cs[outs.length]=c at hci
          obtain⟨pce,hps,els⟩:=w5 c hci
          have hci7:(aW (bo ps) most cs ls).1[outs.length]?=some c:=by rw [emore,Hv hol];exact hci
          obtain⟨fu,rfl⟩:∃f',fu=f' + 1:=⟨fu-1,by omega⟩
          rw [kO hci hps,<-els] at w2
          obtain⟨ds,e⟩:=pce
          obtain⟨p',xs',pc,da,ea,ws,ep,e1',el',hx',e2,e3,r3,e4⟩:=fh hp hps
          cases ep
          rw [e1] at e1'
          cases e1'
          obtain⟨fa,y,hfa,hfa2,_⟩:=uT g2 g3 hci7
          obtain⟨hll,_⟩:=ju (e:=e) ((hcs c (GB hci)).2.rp (pok.gU _ (GB hps)).2)
          rw [<-els] at hll
          subst w1
          refine⟨_,rfl,.inl ⟨rfl,_,aO.of hz7⟩,_,rfl,_,rfl,_,rfl,fl,_,_,_,rfl,rfl,aO.of g1,bS hfa,fa,_,0,_,rfl,rfl,av.of hfa2,cJ,pp,_,_,_,rfl,rfl,av.of (s7 _ _ e1),bS hx',_,rfl,pc,da,ea,nb,ws,ds,e,_,rfl,s7 _ _ e2,s7 _ _ e3,r3.same s7 (cU ds),s7 _ _ e4,g4,(by rw [hln7'];exact hll),fun pv H8 rpv s8=>?_⟩
          have hz8:=s8 _ _ hz7
          refine⟨pz,_,_,rfl,rfl,hz8,bC (by omega),?_⟩
          have kt:∀p xs,H8 p=some (.tup xs)->(upd H8 pz (.lst (zs++[pv]))) p=some (.tup xs):=fun p xs h=>by rw [ao (bw h hz8 (by intro z;cases z))];exact h
          refine⟨_,outs++[(ds,iu e (aW (bo ps) most cs ls).2)],rfl,aa,?_,⟨by rw [Gq];rfl,w2,by rw [Gq];show fu+(_+1)=_;omega,by rw [emore,Gq,Gq];show _+1<=_;omega⟩,fun c o e c1=>by rw [ao c1];exact s8 _ _ e⟩
          rw [GF]
          exact bu.app (rz7.aK (fun p xs h=>kt _ _ (s8 _ _ h)) (aS outs)) (rpv.aK kt (eY _))
      rintro σ' H8 ⟨zs',outs',rfl,hz8,rz8,⟨w1,w2,w3,w4⟩,k8⟩
      have k78:∀p zs,H7 p=some (.tup zs)->H8 p=some (.tup zs):=fun p zs e=>k8 _ _ e (bw e hz7 (by intro z;cases z))
      have hf8:=k8 _ _ g1 nfp
      have rf8:=g2.aK k78 (fD g3)
      have htp8:=k8 _ _ htp7 ntz
      have hw8:=k8 _ _ (g5 _ _ hw5 nwf nbw.symm) nwz
      have s8:af H H8:=fun c o e=>k8 c o (s7 c o e) (ar e npzH)
      have wv8:sI 17 H8 wvs ls:=wv5.mv (fun c o e=>k8 _ _ (g5 _ _ e (bw e hf5 (by intro z;cases z)) (bw e hnb (by intro z;cases z))) (bw e hz5 (by intro z;cases z))) (fun c o e=>k78 _ _ (k57 _ _ e))
      refine⟨_,rfl,_,_,rfl,rfl,?_⟩
      refine⟨_,rfl,_,rfl,fl,_,rfl,.inl (aO.of hf8),_,_,rfl,rfl,_,rfl,?_⟩
      generalize (aW (bo ps) most cs ls).1=cs' at *
      refine dh (fun hc=>?_) (fun hc=>?_)
      . have hol:outs'.length<cs'.length:=by have:=of_decide_eq_true hc;omega
        have hci:cs'[outs'.length]?=some cs'[outs'.length]:=by simp [hol]
        generalize cs'[outs'.length]=c at hci
        obtain⟨hcl,hct⟩:=hcs7 c (GB hci)
        have hps:ps[c.1]?=some ps[c.1]:=by simp [hcl]
        generalize ps[c.1]=pce at hps
        obtain⟨ds,e⟩:=pce
        obtain⟨p',xs',pc,da,ea,ws,ep,e1',el',hx',e2,e3,r3,e4⟩:=fh hp hps
        cases ep
        rw [e1] at e1'
        cases e1'
        have dok:=pok.gU _ (GB hps)
        have eok:=pok.ends _ (GB hps)
        obtain⟨fa,y,hfa,hfa2,hfv⟩:=uT rf8 g3 hci
        have dok1:ds.length<=6:=dok.1
        have bok:cT xs (bD c.2 ds):=hct.rp dok.2
        refine⟨_,rfl,_,rfl,_,rfl,fl,_,_,_,rfl,rfl,aO.of hf8,(w1 ▸ bS hfa:fq fvs' (at_+1)=_),fa,_,0,_,rfl,rfl,av.of hfa2,cJ,pp,_,_,_,rfl,rfl,av.of (s8 _ _ e1),bS hx',pc,_,rfl,av.of (s8 _ _ e2),rfl,_,_,rfl,_,_,rfl,rfl,?_⟩
        refine⟨_,rfl,_,rfl,fl,_,_,_,rfl,rfl,aO.of hf8,(w1 ▸ bS hfa:fq fvs' (at_+1)=_),fa,_,1,_,rfl,rfl,av.of hfa2,dA,y,c.2,10,rfl,hfv,(fun ss hs nd=>Gr (hct.cX ss hs nd) hx10),(by decide),fun d1 H9 lt9 s9=>⟨_,rfl,d1,da,c.2,10,ws,ds,rfl,lt9,s9 _ _ (s8 _ _ e3),r3.same (s8.trans s9) (cU ds),(by omega),fun d2 H10 lt10 s10=>?_⟩⟩
        refine⟨_,rfl,_,rfl,d2,ea,bD c.2 ds,e,16,rfl,lt10.mono (by omega),(by decide),bok.le,s10 _ _ (s9 _ _ (s8 _ _ e4)),fun ll vs H11 hll tv s11=>?_⟩
        have s811:=(s9.trans s10).trans s11
        refine⟨ll,rfl,⟨_,aO.of hll⟩,fun acc na=>?_⟩
        have qa:=af.new (o:=.lst []) na
        have nal:ll≠acc:=ar hll na
        refine m9 (K:=K) (a:=ll) (xs:=vs) (fun i ys Gg H'=>∃t0 t1 t2:Option V,Gg=[t0,t1,t2]/\H' acc=some (.lst ys)/\ys.length=i/\sI 17 H' ys ((cB (bD c.2 ds) e).take i)/\(∀c o,H11 c=some o->H' c=some o)) ?_ ?_ ?_ ?_
        . exact⟨_,_,_,rfl,aa,rfl,.nil,fun c o h=>qa c o h⟩
        . rintro i ys Gg H12 hi ⟨t0,t1,t2,rfl,h1,h2,h3,h4⟩
          have hvl:=iQ.len tv
          have hl2':(cB (bD c.2 ds) e).length<=2:=(ju (e:=e) bok).2
          exact⟨aO.of (h4 _ _ hll),h1,bC (by omega)⟩
        . rintro i y ys Gg H12 hi ⟨t0,t1,t2,rfl,h1,h2,h3,h4⟩
          obtain⟨pr,hpr,qq,sv,dq,rfl,hqq,ltq⟩:=iQ.at tv hi
          refine⟨qq,_,rfl,av.of (h4 _ _ hqq),rfl,_,_,rfl,_,_,rfl,_,_,rfl,rfl,?_⟩
          refine jR ?_
          refine bT ?_
          refine⟨_,rfl,_,rfl,ln2,fun t nt=>⟨(af.new nt) _ _ h1,?_⟩⟩
          have qt:=af.new (o:=.tup [.int (pr.1:Nat),.ref dq]) nt
          have h1t:=qt _ _ h1
          refine⟨_,_,_,rfl,aa,by rw [Gq,h2];rfl,?_,fun c o h=>?_⟩
          . rw [GN,hpr]
            refine d8 ?_ (.cons ?_ .nil)
            . exact sI.mv h3 (fun c o h=>by rw [ao (bw (qt _ _ h) h1t (by intro z;cases z))];exact qt _ _ h) (fun c o h=>by rw [ao (bw (qt _ _ h) h1t (by intro z;cases z))];exact qt _ _ h)
            . refine⟨t,dq,rfl,by rw [ao (bw (show upd H12 t (.tup [.int (pr.1:Nat),.ref dq]) t=_ from aa) h1t (by intro z;cases z))];exact aa,?_⟩
              refine (((ltq.aK (H':=H12) (fun o h=>h4 _ _ h) (fun p zs h=>h4 _ _ h)).same qt).put h1t)
          . rw [ao (ar h na)]
            exact qt _ _ (h4 c o h)
        rintro ys Gg H12 ⟨t0,t1,t2,rfl,h1,h2,h3,h4⟩
        have hvl:=iQ.len tv
        rw [hvl,GR] at h3
        have s12:af H8 H12:=fun c o h=>h4 c o (s811 c o h)
        refine⟨fvs',fds',cs',cB (bD c.2 ds) e,zs',outs',acc,ys,_,_,_,_,_,_,_,_,rfl,s12 _ _ htp8,s12 _ _ hf8,rf8.same s12 (fD g3),g3,cok7,hcs7,s12 _ _ hz8,rz8.same s12 (aS outs'),h1,h3,rA bok eok,(ju (e:=e) bok).2,(ar (s811 _ _ hf8) na).symm,(ar (s811 _ _ hz8) na).symm,s8.trans s12,.inr ⟨w1,w2,w3,w4,fun c' hc'=>⟨(ds,e),?_⟩⟩⟩
        rw [hci] at hc'
        cases hc'
        exact⟨hps,rfl⟩
      . have hol:¬outs'.length<cs'.length:=fun z=>hc (decide_eq_true (by omega))
        refine⟨fvs',fds',cs',ls,zs',outs',wl,wvs,_,_,_,_,_,_,_,_,rfl,htp8,hf8,rf8,g3,cok7,hcs7,hz8,rz8,hw8,wv8,lok,hl2,nwf,nwz,s8,.inr ⟨w1,w2,w3,w4,fun c' hc'=>?_⟩⟩
        rw [HA (by omega)] at hc'
        cases hc'
    . rcases way with ⟨w1,w2,w3,w4,w5⟩ | ⟨w1,w2,w3,w4,w5⟩
      . exact absurd (decide_eq_true (by omega)) hc
      . have hol:¬outs.length<cs.length:=fun z=>hc (decide_eq_true (by omega))
        rw [mO (HA (by omega))] at w2
        rw [<-w2] at q
        refine⟨_,rfl,pz,_,rfl,.inl ⟨aO.of hz4,fun t1 n1=>?_⟩⟩
        have q1:=af.new (o:=.tup zs) n1
        refine⟨_,rfl,fl,_,rfl,.inl ⟨aO.of (q1 _ _ hf4),fun t2 n2=>⟨ln2,fun t3 n3=>?_⟩⟩⟩
        have q2:=af.new (o:=.tup fvs) n2
        have q3:=af.new (o:=.tup [.ref t1,.ref t2]) n3
        have q13:=(q1.trans q2).trans q3
        exact q (.ref t3) fds _ cc4 (.tup aa (.cons (.tup (q3 _ _ (q2 _ _ aa)) (rz4.same q13 (aS outs))) (.cons (.tup (q3 _ _ aa) (rf4.same q13 (fD cc4))) .nil))) (s4'.trans q13)
theorem vc {f:Addr} {fd:FuncData} (F:b0 K "_law_asked" "_law_asked" j2 f fd) (Z:Bl mg) {cP cM cN cR cL cO:Addr} (GX:xT K mg cP cM cN cR cL cO) {C:Addr} (T:oX K C) (OX_needed:o6 P w K mg base "needed" 8 ["plan"] (zC (sP cM) (sQ cM))) (OX_led_past:o6 P w K mg base "led_past" 7 ["plan", "most"] (zC (fm P w C) (kU cM))):bA P w K mg base bX 10 f fd ["plan", "most"] rE:=by
 refine F.ok (k:=9) eC (fun vs H Q E h=>?_) (fun cdv A outer s H vs Q E hr h=>?_)
 ·obtain⟨plv,mv,rfl,_⟩:=h
  rfl
 ·obtain⟨plv,mv,rfl,hcase⟩:=h
  refine⟨_,(ae (aJ (i:=2) eC.nd (bZ bQ))
   (ae (aJ (i:=3) eC.nd cE)
   (ae (dQ (Eg (i:=4) eC.nd GX.tP GX.yP GX.gP (fun _ _ E hE=>(ah (bg (d6 (gd (pv 1)))
   (ah (aJ (i:=3) eC.nd (qA OX_needed hE hr (au (pv 0)))))
   (ah (aJ (i:=3) eC.nd (qA OX_led_past hE hr (ay (pv 0) (pv 1))))))))
   (fun e=>(ae (aJ (i:=2) eC.nd (bZ (ay (aT o5 rfl Z.isinstance eO (ay (pv 4) (cG (v:=.ref cM) rfl GX.gM rfl))) (aT o5 rfl Z.isinstance eO (ay (pv 4) (m3 (v:=.ty "ValueError") rfl Z.ValueError sY rfl))))))
   (ah (cf (df PySem.F.plainAttrs_list PySem.F.slot_list_append PySem.F.type_list_append bU (pv 2) (au (aT o5 rfl Z.isinstance eO (ay (pv 4) (aB (uV (cG (v:=.ref cN) rfl GX.gN rfl) (cG (v:=.ref cO) rfl GX.gO rfl) (cG (v:=.ref cR) rfl GX.gR rfl) (cG (v:=.ref cL) rfl GX.gL rfl)))))))))))))
   (ae (bg (aH (tW hr.units) (pv 2) (bZ (gc fc fc fc)) (aP _))
   (ah (aF ba))
   aM)
   (ae (bg (aH (yF hr.units) (pv 2) (bZ bQ) (aP _))
   (ah (aF ba))
   aM)
   (ah (aF (pv 3)))))))),?_⟩
  refine⟨(by decide),fun l nl=>?_⟩
  refine bJ ?_
  refine bJ ?_
  have q1:=af.new (o:=.lst []) nl
  have hl1:(upd H l (.lst [])) l=some (.lst []):=aa
  generalize (upd H l (.lst []))=H1 at q1 hl1 ⊢
  refine⟨fun σ' H'=>∃(u0 u1 u2 u3:Option V) (lk:Addr),σ' = [u0,u1,some (.ref lk),u2,u3]/\((∃v,u2=some v/\H' lk=some (.lst [])/\∀H'',af H' H''->Q v H'')\/(H' lk=some (.lst [.bl true,.bl true,.bl false])/\∀H'',af H' H''->Q (.str "many") H'')),?_,?_⟩
  ·refine⟨fun cls od H'=>cls=.ref cM/\∀H'',af H' H''->Q (.str "many") H'',fun pn xe=>?_,?_⟩
   ·refine⟨_,rfl,?_⟩
    rcases hcase with ⟨ps,xs,m,rfl,hp,pok,nok,hx10,hn0,hn,h1,h4,q⟩ | ⟨ps,xs,rfl,hp,pok,nok,hx10,hn0,hn,q,qm⟩ | ⟨p,xs,rfl,hmv,hp,h6,h10,q⟩
    ·refine⟨_,rfl,bh rfl ?_⟩
     refine⟨_,rfl,_,rfl,.inl ⟨plv,ps,xs,m,rfl,hp.same q1 (dN _),pok,nok,hx10,hn0,hn,h1,h4,fun v ds H2 cc r s2=>?_⟩⟩
     have nol:cq (.tuple [.tuple ((bL ps m).2.map bW),.tuple ds])=true:=by
      show (b4 _&&(b4 _&&true))=true
      rw [aS,fD cc];rfl
     exact⟨_,_,_,_,l,rfl,.inl ⟨v,rfl,s2 _ _ hl1,fun H'' s3=>q v ds H'' cc (r.same s3 nol) (q1.trans (s2.trans s3))⟩⟩
    ·refine⟨_,rfl,bY rfl ?_⟩
     refine⟨_,rfl,.inl ⟨plv,ps,xs,rfl,hp.same q1 (dN _),pok,nok,hx10,hn0,hn,fun hc H2 s2=>?_,fun hc H2 s2=>⟨rfl,fun H'' s3=>qm hc _ (q1.trans (s2.trans s3))⟩⟩⟩
     exact⟨_,_,_,_,l,rfl,.inl ⟨_,rfl,s2 _ _ hl1,fun H'' s3=>q hc _ (q1.trans (s2.trans s3))⟩⟩
    ·rcases hmv with rfl | ⟨i,rfl⟩
     ·refine⟨_,rfl,bY rfl ?_⟩
      exact⟨_,rfl,.inr ⟨p,xs,rfl,q1 _ _ hp,h6,h10,rfl,fun H'' s3=>q _ (q1.trans s3)⟩⟩
     ·refine⟨_,rfl,bh rfl ?_⟩
      exact⟨_,rfl,_,rfl,.inr ⟨p,xs,_,rfl,q1 _ _ hp,h6,h10,rfl,fun H'' s3=>q _ (q1.trans s3)⟩⟩
   rintro cls od H2 ⟨rfl,qm⟩
   refine⟨cM,rfl,GX.sM,fun e ne=>?_⟩
   have he:(upd H2 e (iW e cM)) e=some (iW e cM):=aa
   have s3:=af.new (o:=iW e cM) ne
   generalize (upd H2 e (iW e cM))=H3 at he s3 ⊢
   refine⟨_,rfl,.own e cM cM true rfl he GX.tM Bc ?_⟩
   refine⟨_,rfl,.bi e cM "ValueError" true rfl he GX.tM GX.kM ?_⟩
   refine⟨(by show 2<=sizeLine;decide),fun l2 n2=>?_⟩
   refine bJ ?_
   have q5:=af.new (o:=.lst [.bl true,.bl true]) n2
   have he5:=q5 _ _ he
   have hl5:(upd H3 l2 (.lst [.bl true,.bl true])) l2=some (.lst [.bl true,.bl true]):=aa
   have s5:=s3.trans q5
   have nl2:H2 l2=none:=s3.free n2
   generalize (upd H3 l2 (.lst [.bl true,.bl true]))=H5 at he5 hl5 s5 ⊢
   refine⟨_,rfl,.inl ⟨rfl,_,aO.of hl5⟩,_,rfl,(by show 4<=sizeLine;decide),fun tp ntp=>?_⟩
   have q6:=af.new (o:=.tup [.ref cN,.ref cO,.ref cR,.ref cL]) ntp
   refine .tup e cM tp [cN,cO,cR,cL] false rfl (q6 _ _ he5) GX.tM aa GX.mM ?_
   refine⟨l2,_,_,rfl,rfl,q6 _ _ hl5,(by show 2<sizeLine;decide),?_⟩
   have s6:af H2 (upd (upd H5 tp (.tup [.ref cN,.ref cO,.ref cR,.ref cL])) l2 (.lst ([.bl true,.bl true]++[.bl false]))):=fun c o e=>by rw [ao (ar e nl2)];exact q6 _ _ (s5 _ _ e)
   dsimp only [rD]
   exact⟨_,_,_,_,l2,rfl,.inr ⟨aa,fun H'' s7=>qm _ (s6.trans s7)⟩⟩
  rintro σ' H2 ⟨u0,u1,u2,u3,lk,rfl,hh⟩
  rcases hh with ⟨v,rfl,hlk,q⟩ | ⟨hlk,q⟩
  ·refine⟨_,rfl,(by show 3<=sizeLine;decide),fun l7 n7=>?_⟩
   have q7:=af.new (o:=.lst [.bl true,.bl true,.bl false]) n7
   refine⟨.list [],.list [.bool true,.bool true,.bool false],.lst (q7 _ _ hlk) .nil,.lst aa (.cons (.bl _) (.cons (.bl _) (.cons (.bl _) .nil))),rfl,rfl,(by decide),_,rfl,?_⟩
   refine bh rfl ?_
   refine⟨_,rfl,(by decide),fun l8 n8=>?_⟩
   have q8:=af.new (o:=.lst []) n8
   refine⟨.list [],.list [],.lst (q8 _ _ (q7 _ _ hlk)) .nil,.lst aa .nil,rfl,rfl,(by decide),_,rfl,?_⟩
   refine bh rfl ?_
   exact⟨_,rfl,q _ (q7.trans q8)⟩
  ·refine⟨_,rfl,(by show 3<=sizeLine;decide),fun l7 n7=>?_⟩
   have q7:=af.new (o:=.lst [.bl true,.bl true,.bl false]) n7
   refine⟨.list [.bool true,.bool true,.bool false],.list [.bool true,.bool true,.bool false],.lst (q7 _ _ hlk) (.cons (.bl _) (.cons (.bl _) (.cons (.bl _) .nil))),.lst aa (.cons (.bl _) (.cons (.bl _) (.cons (.bl _) .nil))),rfl,rfl,(by decide),_,rfl,?_⟩
   refine bY rfl ?_
   exact q _ q7
theorem rN {f:Addr} {fd:FuncData} (F:b0 K "_law_parting" "_law_parting" iZ f fd) (Z:Bl mg) (O_law_take:Own P w K mg base "_law_take" 1 ["bag", "many"] gQ):bA P w K mg base bX 3 f fd ["bag"] nF:=by
 refine F.ok (k:=2) eh (fun vs H Q E h=>?_) (fun cdv A outer s H vs Q E hr h=>?_)
 ·obtain⟨b,rfl,_⟩:=h
  rfl
 ·obtain⟨b,rfl,B,q⟩:=h
  refine⟨_,(ae (aJ (i:=1) eh.nd (aY bR ai (aI O_law_take hr (ay (pv 0) ai))))
   (ae (aJ (i:=2) eh.nd (bZ bQ))
   (ae (cW PassesOwn.never rfl (e7 rfl Z.range (au (pv 1))) (aN (i:=3) eh.nd)
   (ae (aJ (i:=4) eh.nd (aG pN ba (pv 3)))
   (ae (aJ (i:=5) eh.nd (aY bR (aY gg ai (pv 3)) ai))
   (ae (cf (df PySem.F.plainAttrs_list PySem.F.slot_list_append PySem.F.type_list_append bU (pv 2) (au (aB (ay (aB (au (aB (ay ba (pv 4))))) (aB (bH ba (bH (pv 4) (bH (aY bR ai (aI O_law_take hr (ay (pv 0) ai))) (bH (pv 5) (bH (pv 5) bQ)))))))))))
   (ah (cf (df PySem.F.plainAttrs_list PySem.F.slot_list_append PySem.F.type_list_append bU (pv 2) (au (aB (ay (aB bQ) (aB (ay ba (aY bR (pv 5) ai)))))))))))))
   (ae (cf (df PySem.F.plainAttrs_list PySem.F.slot_list_append PySem.F.type_list_append bU (pv 2) (au (aB (ay (aB (au (aB (ay ba ba)))) (aB (bH ba (bH ba (bH ai (bH (aY bR (aY gg ai (pv 1)) ai) (bH (aY bR (aY gg ai (pv 1)) ai) bQ)))))))))))
   (ae (cf (df PySem.F.plainAttrs_list PySem.F.slot_list_append PySem.F.type_list_append bU (pv 2) (au (aB (ay (aB bQ) (aB (au ba)))))))
   (ah (aF (bE bF rfl Z.tuple cb (au (pv 2)))))))))),?_⟩
  refine⟨_,rfl,b,9,rfl,B,⟨by decide,by decide +kernel⟩,fun z H1 z0 z1 B1 X1=>⟨_,_,rfl,rfl,?_⟩⟩
  refine bJ ?_
  obtain⟨c,rfl⟩:∃c:Nat,z=c:=⟨z.toNat,by omega⟩
  refine⟨(by decide),fun lz nz=>?_⟩
  refine bJ ?_
  have nlb:=B1.gh nz
  have B2:=B1.new (o:=.lst []) nz
  have X2:=X1.trans (Fix.new (b:=b) (o:=.lst []) nz)
  have nH:H lz=none:=by cases e:H lz with
   | none=>rfl
   | some o=>exact absurd rfl (ar (X1 _ _ e nlb) nz)
  have P2:eE (upd H1 lz (.lst [])) lz (2*(2+c)+2) 0:=⟨[],[],aa,.nil,rfl,fun p hp=>by cases hp⟩
  generalize (upd H1 lz (.lst []))=H2 at B2 X2 P2 ⊢
  refine⟨_,rfl,_,rfl,(by omega),(by omega),?_⟩
  refine iK (lo:=0) (fun i Gf H'=>∃(u1 u2 u3:Option V),Gf=[some (.ref b),some (.int (2+(c:Nat))),some (.ref lz),u1,u2,u3]/\cH H' b/\eE H' lz (2*(2+c)+2) (2*i)/\Fix b H H') ?_ ?_ ?_
  ·exact⟨_,_,_,rfl,B2,P2,X2⟩
  ·rintro i Gf H3 hi ⟨u1,u2,u3,rfl,B3,P3,X3⟩
   rw [IF]
   refine bJ ?_
   obtain⟨ch,hch,hten⟩:=C0 (k:=i) (by omega)
   refine⟨_,rfl,Bf,_,ch,rfl,rfl,(by decide +kernel),hch,?_⟩
   refine bJ ?_
   generalize (⟨#[ch]⟩:Str)=nm at hten ⊢
   refine⟨_,rfl,_,_,rfl,rfl,.inl ⟨by decide,by decide⟩,_,_,rfl,rfl,?_⟩
   refine bJ ?_
   obtain⟨vs,ps,p1,p2,p3,p4⟩:=P3
   refine⟨_,rfl,.inl ⟨rfl,_,aO.of p1⟩,_,rfl,ln2,fun t1 n1=>⟨(by show 1<=sizeLine;decide),fun t2 n2=>?_⟩⟩
   have a1:=af.new (o:=.tup [.str "read",.str nm]) n1
   have a2:=af.new (o:=.tup [.ref t1]) n2
   have B5:=(B3.new (o:=.tup [.str "read",.str nm]) n1).new (o:=.tup [.ref t1]) n2
   have ht1:=a2 _ _ (show (upd H3 t1 (.tup [.str "read",.str nm])) t1=some (.tup [.str "read",.str nm]) from aa)
   have ht2:(upd (upd H3 t1 (.tup [.str "read",.str nm])) t2 (.tup [.ref t1])) t2=some (.tup [.ref t1]):=aa
   have a12:=a1.trans a2
   generalize (upd (upd H3 t1 (.tup [.str "read",.str nm])) t2 (.tup [.ref t1]))=H5 at B5 ht1 ht2 a12 ⊢
   refine⟨_,rfl,_,rfl,b,4,rfl,B5,⟨by decide,by decide +kernel⟩,fun y H6 y0 y1 B6 X6=>⟨_,_,rfl,rfl,_,rfl,_,rfl,(by show 5<=sizeLine;decide),fun t3 n3=>⟨ln2,fun t4 n4=>?_⟩⟩⟩
   have a3:=af.new (o:=.tup [.str "less",.str nm,.int (3+y),.int (2*(i:Nat)+1),.int (2*(i:Nat)+1)]) n3
   have a4:=af.new (o:=.tup [.ref t2,.ref t3]) n4
   have k6:∀c o,H3 c=some o->c≠b->H6 c=some o:=fun c o e n=>X6 _ _ (a12 _ _ e) n
   have B8:=(B6.new (o:=.tup [.str "less",.str nm,.int (3+y),.int (2*(i:Nat)+1),.int (2*(i:Nat)+1)]) n3).new (o:=.tup [.ref t2,.ref t3]) n4
   have ht1:=a4 _ _ (a3 _ _ (X6 _ _ ht1 (B5.gK ht1)))
   have ht2:=a4 _ _ (a3 _ _ (X6 _ _ ht2 (B5.gK ht2)))
   have ht3:=a4 _ _ (show (upd H6 t3 (.tup [.str "less",.str nm,.int (3+y),.int (2*(i:Nat)+1),.int (2*(i:Nat)+1)])) t3=some (.tup [.str "less",.str nm,.int (3+y),.int (2*(i:Nat)+1),.int (2*(i:Nat)+1)]) from aa)
   have ht4:(upd (upd H6 t3 (.tup [.str "less",.str nm,.int (3+y),.int (2*(i:Nat)+1),.int (2*(i:Nat)+1)])) t4 (.tup [.ref t2,.ref t3])) t4=some (.tup [.ref t2,.ref t3]):=aa
   have k8:∀c o,H3 c=some o->c≠b->(upd (upd H6 t3 (.tup [.str "less",.str nm,.int (3+y),.int (2*(i:Nat)+1),.int (2*(i:Nat)+1)])) t4 (.tup [.ref t2,.ref t3])) c=some o:=fun c o e n=>a4 _ _ (a3 _ _ (k6 c o e n))
   generalize (upd (upd H6 t3 (.tup [.str "less",.str nm,.int (3+y),.int (2*(i:Nat)+1),.int (2*(i:Nat)+1)])) t4 (.tup [.ref t2,.ref t3]))=H8 at B8 ht1 ht2 ht3 ht4 k8 ⊢
   have p8:=k8 _ _ p1 nlb
   have r8:=p2.aK (fun c zs e=>k8 _ _ e (B3.gK e)) (aS ps)
   have hvl:vs.length=2*i:=by rw [p2.len,Gi,p3]
   refine⟨lz,_,_,rfl,rfl,p8,d7 (by omega),?_⟩
   have P9:=eE.put (n:=2*(2+c)+2) (p:=([.read nm],.cF true nm (3+y) (2*i+1) (2*i+1))) p8 r8 p3 p4 (.tup ht4 (.cons (.tup ht2 (.cons (.tup ht1 (.cons (.str _) (.cons (.str _) .nil))) .nil)) (.cons (.tup ht3 (.cons (.str _) (.cons (.str _) (.cons (.int _) (.cons (.int _) (.cons (.int _) .nil)))))) .nil))) ⟨⟨(by show 1<=6;decide),fun d hd=>by rw [Gk.mp hd];exact hten⟩,hten,⟨by omega,by omega⟩,by omega,by omega⟩
   have B9:cH (upd H8 lz (.lst (vs++[.ref t4]))) b:=by obtain⟨x,y,hb,r⟩:=B8;exact⟨x,y,by rw [ao nlb.symm];exact hb,r⟩
   have X9:Fix b H (upd H8 lz (.lst (vs++[.ref t4]))):=fun c o e n=>by rw [ao (ar e nH)];exact k8 _ _ (X3 _ _ e n) n
   generalize (upd H8 lz (.lst (vs++[.ref t4])))=H9 at P9 B9 X9 ⊢
   clear p8 r8 p1 p2 p3 p4 hvl ht1 ht2 ht3 ht4 k8 B8 k6 a3 a4 a12 a1 a2 X6 B6 B5
   obtain⟨vs,ps,p1,p2,p3,p4⟩:=P9
   have hvl:vs.length=2*i+1:=by rw [p2.len,Gi,p3]
   refine⟨_,rfl,.inl ⟨rfl,_,aO.of p1⟩,(by decide),fun t5 n5=>⟨_,rfl,_,_,rfl,rfl,ln2,fun t6 n6=>⟨ln2,fun t7 n7=>?_⟩⟩⟩
   have a5:=af.new (o:=.tup []) n5
   have a6:=af.new (o:=.tup [.str "go",.int (2*(i:Nat)+1+1)]) n6
   have a7:=af.new (o:=.tup [.ref t5,.ref t6]) n7
   have a57:=(a5.trans a6).trans a7
   have ht5:=a7 _ _ (a6 _ _ (show (upd H9 t5 (.tup [])) t5=some (.tup []) from aa))
   have ht6:=a7 _ _ (show (upd (upd H9 t5 (.tup [])) t6 (.tup [.str "go",.int (2*(i:Nat)+1+1)])) t6=some (.tup [.str "go",.int (2*(i:Nat)+1+1)]) from aa)
   have ht7:(upd (upd (upd H9 t5 (.tup [])) t6 (.tup [.str "go",.int (2*(i:Nat)+1+1)])) t7 (.tup [.ref t5,.ref t6])) t7=some (.tup [.ref t5,.ref t6]):=aa
   generalize (upd (upd (upd H9 t5 (.tup [])) t6 (.tup [.str "go",.int (2*(i:Nat)+1+1)])) t7 (.tup [.ref t5,.ref t6]))=H12 at a57 ht5 ht6 ht7 ⊢
   refine⟨lz,_,_,rfl,rfl,a57 _ _ p1,d7 (by omega),?_⟩
   have P13:=eE.put (n:=2*(2+c)+2) (p:=([],.go (2*i+2))) (a57 _ _ p1) (p2.same a57 (aS ps)) p3 p4 (.tup ht7 (.cons (.tup ht5 .nil) (.cons (.tup ht6 (.cons (.str _) (.cons (.int _) .nil))) .nil))) ⟨⟨(by show 0<=6;decide),fun d hd=>by cases hd⟩,(by show 2*i+2<_;omega)⟩
   have B13:cH (upd H12 lz (.lst (vs++[.ref t7]))) b:=by obtain⟨x,y,hb,r⟩:=B9;exact⟨x,y,by rw [ao nlb.symm];exact a57 _ _ hb,r⟩
   exact⟨_,_,_,rfl,B13,P13,fun c o e n=>by rw [ao (ar e nH)];exact a57 _ _ (X9 _ _ e n)⟩
  rintro Gf H3 ⟨u1,u2,u3,rfl,B3,P3,X3⟩
  obtain⟨vs,ps,p1,p2,p3,p4⟩:=P3
  have hvl:vs.length=2*(2+c):=by rw [p2.len,Gi,p3];omega
  refine⟨_,rfl,.inl ⟨rfl,_,aO.of p1⟩,ln2,fun t1 n1=>⟨(by show 1<=sizeLine;decide),fun t2 n2=>⟨_,rfl,_,_,rfl,rfl,.inl ⟨by decide,by decide⟩,_,_,rfl,rfl,_,rfl,_,_,rfl,rfl,.inl ⟨by decide,by decide⟩,_,_,rfl,rfl,(by show 5<=sizeLine;decide),fun t3 n3=>⟨ln2,fun t4 n4=>?_⟩⟩⟩⟩
  have a1:=af.new (o:=.tup [.str "tell",.str "a"]) n1
  have a2:=af.new (o:=.tup [.ref t1]) n2
  have a3:=af.new (o:=.tup [.str "less",.str "a",.int 3,.int (2*(2+(c:Nat))+1),.int (2*(2+(c:Nat))+1)]) n3
  have a4:=af.new (o:=.tup [.ref t2,.ref t3]) n4
  have a14:=(a1.trans a2).trans (a3.trans a4)
  have ht1:=a4 _ _ (a3 _ _ (a2 _ _ (show (upd H3 t1 (.tup [.str "tell",.str "a"])) t1=some (.tup [.str "tell",.str "a"]) from aa)))
  have ht2:=a4 _ _ (a3 _ _ (show (upd (upd H3 t1 (.tup [.str "tell",.str "a"])) t2 (.tup [.ref t1])) t2=some (.tup [.ref t1]) from aa))
  have ht3:=a4 _ _ (show (upd (upd (upd H3 t1 (.tup [.str "tell",.str "a"])) t2 (.tup [.ref t1])) t3 (.tup [.str "less",.str "a",.int 3,.int (2*(2+(c:Nat))+1),.int (2*(2+(c:Nat))+1)])) t3=some (.tup [.str "less",.str "a",.int 3,.int (2*(2+(c:Nat))+1),.int (2*(2+(c:Nat))+1)]) from aa)
  have ht4:(upd (upd (upd (upd H3 t1 (.tup [.str "tell",.str "a"])) t2 (.tup [.ref t1])) t3 (.tup [.str "less",.str "a",.int 3,.int (2*(2+(c:Nat))+1),.int (2*(2+(c:Nat))+1)])) t4 (.tup [.ref t2,.ref t3])) t4=some (.tup [.ref t2,.ref t3]):=aa
  generalize (upd (upd (upd (upd H3 t1 (.tup [.str "tell",.str "a"])) t2 (.tup [.ref t1])) t3 (.tup [.str "less",.str "a",.int 3,.int (2*(2+(c:Nat))+1),.int (2*(2+(c:Nat))+1)])) t4 (.tup [.ref t2,.ref t3]))=H8 at a14 ht1 ht2 ht3 ht4 ⊢
  refine⟨lz,_,_,rfl,rfl,a14 _ _ p1,d7 (by omega),?_⟩
  have P9:=eE.put (n:=2*(2+c)+2) (p:=([.tell "a"],.cF true "a" 3 (2*(2+c)+1) (2*(2+c)+1))) (a14 _ _ p1) (p2.same a14 (aS ps)) p3 p4 (.tup ht4 (.cons (.tup ht2 (.cons (.tup ht1 (.cons (.str _) (.cons (.str _) .nil))) .nil)) (.cons (.tup ht3 (.cons (.str _) (.cons (.str _) (.cons (.int _) (.cons (.int _) (.cons (.int _) .nil)))))) .nil))) ⟨⟨(by show 1<=6;decide),fun d hd=>by rw [Gk.mp hd];exact BJ⟩,BJ,⟨by decide,by decide⟩,by omega,by omega⟩
  have B9:cH (upd H8 lz (.lst (vs++[.ref t4]))) b:=by obtain⟨x,y,hb,r⟩:=B3;exact⟨x,y,by rw [ao nlb.symm];exact a14 _ _ hb,r⟩
  have X9:Fix b H (upd H8 lz (.lst (vs++[.ref t4]))):=fun c o e n=>by rw [ao (ar e nH)];exact a14 _ _ (X3 _ _ e n)
  generalize (upd H8 lz (.lst (vs++[.ref t4])))=H9 at P9 B9 X9 ⊢
  clear p1 p2 p3 p4 hvl ht1 ht2 ht3 ht4 a1 a2 a3 a4 a14
  obtain⟨vs,ps,p1,p2,p3,p4⟩:=P9
  have hvl:vs.length=2*(2+c)+1:=by rw [p2.len,Gi,p3];omega
  refine⟨_,rfl,.inl ⟨rfl,_,aO.of p1⟩,(by decide),fun t5 n5=>⟨(by show 1<=sizeLine;decide),fun t6 n6=>⟨ln2,fun t7 n7=>?_⟩⟩⟩
  have a5:=af.new (o:=.tup []) n5
  have a6:=af.new (o:=.tup [.str "stop"]) n6
  have a7:=af.new (o:=.tup [.ref t5,.ref t6]) n7
  have a57:=(a5.trans a6).trans a7
  have ht5:=a7 _ _ (a6 _ _ (show (upd H9 t5 (.tup [])) t5=some (.tup []) from aa))
  have ht6:=a7 _ _ (show (upd (upd H9 t5 (.tup [])) t6 (.tup [.str "stop"])) t6=some (.tup [.str "stop"]) from aa)
  have ht7:(upd (upd (upd H9 t5 (.tup [])) t6 (.tup [.str "stop"])) t7 (.tup [.ref t5,.ref t6])) t7=some (.tup [.ref t5,.ref t6]):=aa
  generalize (upd (upd (upd H9 t5 (.tup [])) t6 (.tup [.str "stop"])) t7 (.tup [.ref t5,.ref t6]))=H12 at a57 ht5 ht6 ht7 ⊢
  refine⟨lz,_,_,rfl,rfl,a57 _ _ p1,d7 (by omega),?_⟩
  have P13:=eE.put (n:=2*(2+c)+2) (p:=([],.stop)) (a57 _ _ p1) (p2.same a57 (aS ps)) p3 p4 (.tup ht7 (.cons (.tup ht5 .nil) (.cons (.tup ht6 (.cons (.str _) .nil)) .nil))) ⟨⟨(by show 0<=6;decide),fun d hd=>by cases hd⟩,True.intro⟩
  have B13:cH (upd H12 lz (.lst (vs++[.ref t7]))) b:=by obtain⟨x,y,hb,r⟩:=B9;exact⟨x,y,by rw [ao nlb.symm];exact a57 _ _ hb,r⟩
  have X13:Fix b H (upd H12 lz (.lst (vs++[.ref t7]))):=fun c o e n=>by rw [ao (ar e nH)];exact a57 _ _ (X9 _ _ e n)
  generalize (upd H12 lz (.lst (vs++[.ref t7])))=H13 at P13 B13 X13 ⊢
  obtain⟨vs,ps,p1,p2,p3,p4⟩:=P13
  refine⟨_,rfl,lz,_,rfl,.inl ⟨aO.of p1,fun t nt=>?_⟩⟩
  have a8:=af.new (o:=.tup vs) nt
  obtain⟨g1,g2⟩:=eE.Eh (lz:=lz) (n:=2*(2+c)+2) p2 (by omega) p4 (show (upd H13 t (.tup vs)) t=some (.tup vs) from aa) (fun c zs e=>a8 _ _ e)
  exact q _ ps _ g1 g2 (by omega) (by omega) (B13.new nt) (X13.trans (Fix.new nt))
theorem tw {f:Addr} {fd:FuncData} (F:b0 K "_law_border" "_law_border" jD f fd) (Z:Bl mg) (O_law_take:Own P w K mg base "_law_take" 1 ["bag", "many"] gQ):bA P w K mg base bX 3 f fd ["bag"] nF:=by
  refine F.ok (k:=2) dZ (fun vs H Q E h=>?_) (fun cdv A outer s H vs Q E hr h=>?_)
  . obtain⟨b,rfl,_⟩:=h
    rfl
  . obtain⟨b,rfl,B,q⟩:=h
    refine⟨_,(ae (aJ (i:=1) dZ.nd (aY bR ai (aI O_law_take hr (ay (pv 0) ai))))
      (ae (il (i:=2) ["k"] [] [] rfl dZ.nd rfl rfl rfl (e7 rfl Z.range (au (pv 1))) rfl (by decide +kernel) (by decide +kernel) (by decide +kernel) True.intro (fun _ _ _ _=>(aN (i:=0) (show ((["k"]:List Str)++([]:List Str)).Nodup by decide +kernel) (hf:=GQ rfl))) (fun _ _ _ _=>eX) (fun _ _ _ _=>(aB (ay (aB bQ) (aB (ay ba (aY bR (pv 0) ai)))))))
      (ae (cW PassesOwn.never rfl (e7 rfl Z.range (au ai)) (aN (i:=3) dZ.nd)
      (ae (aJ (i:=4) dZ.nd (aG pN ba (pv 3)))
      (ae (aJ (i:=5) dZ.nd (aY bR (aY bR (pv 1) (aY gg ai (pv 3))) ai))
      (ae (cf (df PySem.F.plainAttrs_list PySem.F.slot_list_append PySem.F.type_list_append bU (pv 2) (au (aB (ay (aB (au (aB (ay ba (pv 4))))) (aB (bH ba (bH (pv 4) (bH (aY bR ai (aI O_law_take hr (ay (pv 0) ai))) (bH (pv 5) (bH (pv 5) bQ)))))))))))
      (ah (cf (df PySem.F.plainAttrs_list PySem.F.slot_list_append PySem.F.type_list_append bU (pv 2) (au (aB (ay (aB bQ) (aB (ay ba (aY bR (pv 5) ai)))))))))))))
      (ae (cW PassesOwn.never rfl (e7 rfl Z.range (au ai)) (aN (i:=3) dZ.nd)
      (ah (cf (df PySem.F.plainAttrs_list PySem.F.slot_list_append PySem.F.type_list_append bU (pv 2) (au (aB (ay (aB (au (aB (ay ba ba)))) (aB (ay ba (aY bR (aY bR (pv 1) ai) (pv 3)))))))))))
      (ae (cf (df PySem.F.plainAttrs_list PySem.F.slot_list_append PySem.F.type_list_append bU (pv 2) (au (aB (ay (aB bQ) (aB (au ba)))))))
      (ah (aF (bE bF rfl Z.tuple cb (au (pv 2)))))))))),?_⟩
    refine⟨_,rfl,b,5,rfl,B,⟨by decide,by decide +kernel⟩,fun z H1 z0 z1 B1 X1=>⟨_,_,rfl,rfl,?_⟩⟩
    refine bJ ?_
    obtain⟨c,rfl⟩:∃c:Nat,z=c:=⟨z.toNat,by omega⟩
    refine⟨_,rfl,_,rfl,(by omega),(by omega),fun lz nz=>?_⟩
    have nlb:=B1.gh nz
    have nH:H lz=none:=by cases e:H lz with
      | none=>rfl
      | some o=>exact absurd rfl (ar (X1 _ _ e nlb) nz)
    refine oH (lo:=0) (fun i ys Gg H'=>∃(v:Option V) (ps:List Piece),Gg=[v]/\H' lz=some (.lst ys)/\bu H' ys (ps.map bW)/\ps.length=i/\(∀p∈ps,iR ((13+c)+16) p)/\cH H' b/\Fix b H H') ?_ ?_ ?_ ?_
    . exact⟨none,[],rfl,aa,.nil,rfl,(fun _ h=>nomatch h),B1.new nz,X1.trans (Fix.new nz)⟩
    . rintro i ys Gg H' hi ⟨v,ps,rfl,h1,h2,h3,_⟩
      refine⟨h1,?_⟩
      rw [h2.len,Gi]
      exact bC (by omega)
    . rintro i vs Gg H9 hi ⟨v,ps,rfl,p1,p2,p3,p4,B9,X9⟩
      rw [IF]
      refine bJ ?_
      refine jR ?_
      refine bT ?_
      refine⟨(by decide),fun t5 n5=>⟨_,rfl,_,_,rfl,rfl,ln2,fun t6 n6=>⟨ln2,fun t7 n7=>?_⟩⟩⟩
      have a5:=af.new (o:=.tup []) n5
      have a6:=af.new (o:=.tup [.str "go",.int ((i:Nat)+1)]) n6
      have a7:=af.new (o:=.tup [.ref t5,.ref t6]) n7
      have a57:=(a5.trans a6).trans a7
      have ht5:=a7 _ _ (a6 _ _ (show (upd H9 t5 (.tup [])) t5=some (.tup []) from aa))
      have ht6:=a7 _ _ (show (upd (upd H9 t5 (.tup [])) t6 (.tup [.str "go",.int ((i:Nat)+1)])) t6=some (.tup [.str "go",.int ((i:Nat)+1)]) from aa)
      have ht7:(upd (upd (upd H9 t5 (.tup [])) t6 (.tup [.str "go",.int ((i:Nat)+1)])) t7 (.tup [.ref t5,.ref t6])) t7=some (.tup [.ref t5,.ref t6]):=aa
      generalize (upd (upd (upd H9 t5 (.tup [])) t6 (.tup [.str "go",.int ((i:Nat)+1)])) t7 (.tup [.ref t5,.ref t6]))=H12 at a57 ht5 ht6 ht7 ⊢
      obtain⟨w1,w2,w3⟩:=C2 (n:=(13+c)+16) (p:=([],.go (i+1))) (a57 _ _ p1) (p2.same a57 (aS ps)) p3 p4 (.tup ht7 (.cons (.tup ht5 .nil) (.cons (.tup ht6 (.cons (.str _) (.cons (.int _) .nil))) .nil))) ⟨⟨(by show 0<=6;decide),fun d hd=>by cases hd⟩,(by show i+1<_;omega)⟩
      have B13:cH (upd H12 lz (.lst (vs++[.ref t7]))) b:=by obtain⟨x,y,hb,r⟩:=B9;exact⟨x,y,by rw [ao nlb.symm];exact a57 _ _ hb,r⟩
      exact⟨a57 _ _ p1,_,_,rfl,aa,w1,w2,w3,B13,fun c o e n=>by rw [ao (ar e nH)];exact a57 _ _ (X9 _ _ e n)⟩
    rintro ys Gg H2 ⟨v,ps,rfl,p1,p2,p3,p4,B2,X2⟩
    have P2:eE H2 lz ((13+c)+16) (13+c):=⟨ys,ps,p1,p2,by rw [p3];omega,p4⟩
    clear p1 p2 p3 p4
    refine bJ ?_
    refine⟨_,rfl,(by decide),(by decide),?_⟩
    refine iK (lo:=0) (fun i Gf H'=>∃(u1 u2 u3:Option V),Gf=[some (.ref b),some (.int (13+(c:Nat))),some (.ref lz),u1,u2,u3]/\cH H' b/\eE H' lz ((13+c)+16) ((13+c)+2*i)/\Fix b H H') ?_ ?_ ?_
    . exact⟨_,_,_,rfl,B2,P2,X2⟩
    . rintro i Gf H3 hi ⟨u1,u2,u3,rfl,B3,P3,X3⟩
      rw [IF]
      refine bJ ?_
      have hi5:i<5:=hi
      obtain⟨ch,hch,hten⟩:=C1 hi5
      refine⟨_,rfl,Bg,_,ch,rfl,rfl,(by decide +kernel),hch,?_⟩
      refine bJ ?_
      generalize (⟨#[ch]⟩:Str)=nm at hten ⊢
      refine⟨_,rfl,_,rfl,_,_,rfl,rfl,.inl ⟨by decide,by decide⟩,_,_,rfl,rfl,_,_,rfl,rfl,?_⟩
      refine bJ ?_
      obtain⟨vs,ps,p1,p2,p3,p4⟩:=P3
      refine⟨_,rfl,.inl ⟨rfl,_,aO.of p1⟩,_,rfl,ln2,fun t1 n1=>⟨(by show 1<=sizeLine;decide),fun t2 n2=>?_⟩⟩
      have a1:=af.new (o:=.tup [.str "read",.str nm]) n1
      have a2:=af.new (o:=.tup [.ref t1]) n2
      have B5:=(B3.new (o:=.tup [.str "read",.str nm]) n1).new (o:=.tup [.ref t1]) n2
      have ht1:=a2 _ _ (show (upd H3 t1 (.tup [.str "read",.str nm])) t1=some (.tup [.str "read",.str nm]) from aa)
      have ht2:(upd (upd H3 t1 (.tup [.str "read",.str nm])) t2 (.tup [.ref t1])) t2=some (.tup [.ref t1]):=aa
      have a12:=a1.trans a2
      generalize (upd (upd H3 t1 (.tup [.str "read",.str nm])) t2 (.tup [.ref t1]))=H5 at B5 ht1 ht2 a12 ⊢
      refine⟨_,rfl,_,rfl,b,4,rfl,B5,⟨by decide,by decide +kernel⟩,fun y H6 y0 y1 B6 X6=>⟨_,_,rfl,rfl,_,rfl,_,rfl,(by show 5<=sizeLine;decide),fun t3 n3=>⟨ln2,fun t4 n4=>?_⟩⟩⟩
      have a3:=af.new (o:=.tup [.str "less",.str nm,.int (3+y),.int ((13+(c:Nat))+2*(i:Nat)+1),.int ((13+(c:Nat))+2*(i:Nat)+1)]) n3
      have a4:=af.new (o:=.tup [.ref t2,.ref t3]) n4
      have k6:∀c o,H3 c=some o->c≠b->H6 c=some o:=fun c o e n=>X6 _ _ (a12 _ _ e) n
      have B8:=(B6.new (o:=.tup [.str "less",.str nm,.int (3+y),.int ((13+(c:Nat))+2*(i:Nat)+1),.int ((13+(c:Nat))+2*(i:Nat)+1)]) n3).new (o:=.tup [.ref t2,.ref t3]) n4
      have ht1:=a4 _ _ (a3 _ _ (X6 _ _ ht1 (B5.gK ht1)))
      have ht2:=a4 _ _ (a3 _ _ (X6 _ _ ht2 (B5.gK ht2)))
      have ht3:=a4 _ _ (show (upd H6 t3 (.tup [.str "less",.str nm,.int (3+y),.int ((13+(c:Nat))+2*(i:Nat)+1),.int ((13+(c:Nat))+2*(i:Nat)+1)])) t3=some (.tup [.str "less",.str nm,.int (3+y),.int ((13+(c:Nat))+2*(i:Nat)+1),.int ((13+(c:Nat))+2*(i:Nat)+1)]) from aa)
      have ht4:(upd (upd H6 t3 (.tup [.str "less",.str nm,.int (3+y),.int ((13+(c:Nat))+2*(i:Nat)+1),.int ((13+(c:Nat))+2*(i:Nat)+1)])) t4 (.tup [.ref t2,.ref t3])) t4=some (.tup [.ref t2,.ref t3]):=aa
      have k8:∀x o,H3 x=some o->x≠b->(upd (upd H6 t3 (.tup [.str "less",.str nm,.int (3+y),.int ((13+(c:Nat))+2*(i:Nat)+1),.int ((13+(c:Nat))+2*(i:Nat)+1)])) t4 (.tup [.ref t2,.ref t3])) x=some o:=fun x o e n=>a4 _ _ (a3 _ _ (k6 x o e n))
      generalize (upd (upd H6 t3 (.tup [.str "less",.str nm,.int (3+y),.int ((13+(c:Nat))+2*(i:Nat)+1),.int ((13+(c:Nat))+2*(i:Nat)+1)])) t4 (.tup [.ref t2,.ref t3]))=H8 at B8 ht1 ht2 ht3 ht4 k8 ⊢
      have p8:=k8 _ _ p1 nlb
      have r8:=p2.aK (fun c zs e=>k8 _ _ e (B3.gK e)) (aS ps)
      have hvl:vs.length=(13+c)+2*i:=by rw [p2.len,Gi,p3]
      refine⟨lz,_,_,rfl,rfl,p8,d7 (by omega),?_⟩
      have P9:=eE.put (n:=(13+c)+16) (p:=([.read nm],.cF true nm (3+y) ((13+c)+2*i+1) ((13+c)+2*i+1))) p8 r8 p3 p4 (.tup ht4 (.cons (.tup ht2 (.cons (.tup ht1 (.cons (.str _) (.cons (.str _) .nil))) .nil)) (.cons (.tup ht3 (.cons (.str _) (.cons (.str _) (.cons (.int _) (.cons (.int _) (.cons (.int _) .nil)))))) .nil))) ⟨⟨(by show 1<=6;decide),fun d hd=>by rw [Gk.mp hd];exact hten⟩,hten,⟨by omega,by omega⟩,by omega,by omega⟩
      have B9:cH (upd H8 lz (.lst (vs++[.ref t4]))) b:=by obtain⟨x,y,hb,r⟩:=B8;exact⟨x,y,by rw [ao nlb.symm];exact hb,r⟩
      have X9:Fix b H (upd H8 lz (.lst (vs++[.ref t4]))):=fun c o e n=>by rw [ao (ar e nH)];exact k8 _ _ (X3 _ _ e n) n
      generalize (upd H8 lz (.lst (vs++[.ref t4])))=H9 at P9 B9 X9 ⊢
      clear p8 r8 p1 p2 p3 p4 hvl ht1 ht2 ht3 ht4 k8 B8 k6 a3 a4 a12 a1 a2 X6 B6 B5
      obtain⟨vs,ps,p1,p2,p3,p4⟩:=P9
      have hvl:vs.length=(13+c)+2*i+1:=by rw [p2.len,Gi,p3]
      refine⟨_,rfl,.inl ⟨rfl,_,aO.of p1⟩,(by decide),fun t5 n5=>⟨_,rfl,_,_,rfl,rfl,ln2,fun t6 n6=>⟨ln2,fun t7 n7=>?_⟩⟩⟩
      have a5:=af.new (o:=.tup []) n5
      have a6:=af.new (o:=.tup [.str "go",.int ((13+(c:Nat))+2*(i:Nat)+1+1)]) n6
      have a7:=af.new (o:=.tup [.ref t5,.ref t6]) n7
      have a57:=(a5.trans a6).trans a7
      have ht5:=a7 _ _ (a6 _ _ (show (upd H9 t5 (.tup [])) t5=some (.tup []) from aa))
      have ht6:=a7 _ _ (show (upd (upd H9 t5 (.tup [])) t6 (.tup [.str "go",.int ((13+(c:Nat))+2*(i:Nat)+1+1)])) t6=some (.tup [.str "go",.int ((13+(c:Nat))+2*(i:Nat)+1+1)]) from aa)
      have ht7:(upd (upd (upd H9 t5 (.tup [])) t6 (.tup [.str "go",.int ((13+(c:Nat))+2*(i:Nat)+1+1)])) t7 (.tup [.ref t5,.ref t6])) t7=some (.tup [.ref t5,.ref t6]):=aa
      generalize (upd (upd (upd H9 t5 (.tup [])) t6 (.tup [.str "go",.int ((13+(c:Nat))+2*(i:Nat)+1+1)])) t7 (.tup [.ref t5,.ref t6]))=H12 at a57 ht5 ht6 ht7 ⊢
      refine⟨lz,_,_,rfl,rfl,a57 _ _ p1,d7 (by omega),?_⟩
      have P13:=eE.put (n:=(13+c)+16) (p:=([],.go ((13+c)+2*i+2))) (a57 _ _ p1) (p2.same a57 (aS ps)) p3 p4 (.tup ht7 (.cons (.tup ht5 .nil) (.cons (.tup ht6 (.cons (.str _) (.cons (.int _) .nil))) .nil))) ⟨⟨(by show 0<=6;decide),fun d hd=>by cases hd⟩,(by show (13+c)+2*i+2<_;omega)⟩
      have B13:cH (upd H12 lz (.lst (vs++[.ref t7]))) b:=by obtain⟨x,y,hb,r⟩:=B9;exact⟨x,y,by rw [ao nlb.symm];exact a57 _ _ hb,r⟩
      exact⟨_,_,_,rfl,B13,P13,fun c o e n=>by rw [ao (ar e nH)];exact a57 _ _ (X9 _ _ e n)⟩
    rintro Gf H20 ⟨u1,u2,u3,rfl,B20,P20,X20⟩
    refine⟨_,rfl,(by decide),(by decide),?_⟩
    refine iK (lo:=0) (fun i Gf H'=>∃(u1 u2 u3:Option V),Gf=[some (.ref b),some (.int (13+(c:Nat))),some (.ref lz),u1,u2,u3]/\cH H' b/\eE H' lz ((13+c)+16) ((13+c)+10+i)/\Fix b H H') ?_ ?_ ?_
    . exact⟨_,_,_,rfl,B20,P20,X20⟩
    . rintro i Gf H3 hi ⟨u1,u2,u3,rfl,B3,P3,X3⟩
      rw [IF]
      refine bJ ?_
      have hi5:i<5:=hi
      obtain⟨vs,ps,p1,p2,p3,p4⟩:=P3
      have hvl:vs.length=(13+c)+10+i:=by rw [p2.len,Gi,p3]
      refine⟨_,rfl,.inl ⟨rfl,_,aO.of p1⟩,ln2,fun t1 n1=>⟨(by show 1<=sizeLine;decide),fun t2 n2=>⟨_,rfl,_,_,rfl,rfl,_,rfl,_,_,rfl,rfl,ln2,fun t3 n3=>⟨ln2,fun t4 n4=>?_⟩⟩⟩⟩
      have a1:=af.new (o:=.tup [.str "tell",.str "c"]) n1
      have a2:=af.new (o:=.tup [.ref t1]) n2
      have a3:=af.new (o:=.tup [.str "go",.int (13+(c:Nat)+11+(i:Nat))]) n3
      have a4:=af.new (o:=.tup [.ref t2,.ref t3]) n4
      have a14:=(a1.trans a2).trans (a3.trans a4)
      have ht1:=a4 _ _ (a3 _ _ (a2 _ _ (show (upd H3 t1 (.tup [.str "tell",.str "c"])) t1=some (.tup [.str "tell",.str "c"]) from aa)))
      have ht2:=a4 _ _ (a3 _ _ (show (upd (upd H3 t1 (.tup [.str "tell",.str "c"])) t2 (.tup [.ref t1])) t2=some (.tup [.ref t1]) from aa))
      have ht3:=a4 _ _ (show (upd (upd (upd H3 t1 (.tup [.str "tell",.str "c"])) t2 (.tup [.ref t1])) t3 (.tup [.str "go",.int (13+(c:Nat)+11+(i:Nat))])) t3=some (.tup [.str "go",.int (13+(c:Nat)+11+(i:Nat))]) from aa)
      have ht4:(upd (upd (upd (upd H3 t1 (.tup [.str "tell",.str "c"])) t2 (.tup [.ref t1])) t3 (.tup [.str "go",.int (13+(c:Nat)+11+(i:Nat))])) t4 (.tup [.ref t2,.ref t3])) t4=some (.tup [.ref t2,.ref t3]):=aa
      generalize (upd (upd (upd (upd H3 t1 (.tup [.str "tell",.str "c"])) t2 (.tup [.ref t1])) t3 (.tup [.str "go",.int (13+(c:Nat)+11+(i:Nat))])) t4 (.tup [.ref t2,.ref t3]))=H8 at a14 ht1 ht2 ht3 ht4 ⊢
      refine⟨lz,_,_,rfl,rfl,a14 _ _ p1,d7 (by omega),?_⟩
      have P9:=eE.put (n:=(13+c)+16) (p:=([.tell "c"],.go (13+c+11+i))) (a14 _ _ p1) (p2.same a14 (aS ps)) p3 p4 (.tup ht4 (.cons (.tup ht2 (.cons (.tup ht1 (.cons (.str _) (.cons (.str _) .nil))) .nil)) (.cons (.tup ht3 (.cons (.str _) (.cons (.int _) .nil))) .nil))) ⟨⟨(by show 1<=6;decide),fun d hd=>by rw [Gk.mp hd];exact EO⟩,(by show 13+c+11+i<_;omega)⟩
      have B9:cH (upd H8 lz (.lst (vs++[.ref t4]))) b:=by obtain⟨x,y,hb,r⟩:=B3;exact⟨x,y,by rw [ao nlb.symm];exact a14 _ _ hb,r⟩
      exact⟨_,_,_,rfl,B9,P9,fun c o e n=>by rw [ao (ar e nH)];exact a14 _ _ (X3 _ _ e n)⟩
    rintro Gf H9 ⟨u1,u2,u3,rfl,B9,P9,X9⟩
    obtain⟨vs,ps,p1,p2,p3,p4⟩:=P9
    have p3:ps.length=(13+c)+15:=p3
    have hvl:vs.length=(13+c)+15:=by rw [p2.len,Gi,p3]
    refine⟨_,rfl,.inl ⟨rfl,_,aO.of p1⟩,(by decide),fun t5 n5=>⟨(by show 1<=sizeLine;decide),fun t6 n6=>⟨ln2,fun t7 n7=>?_⟩⟩⟩
    have a5:=af.new (o:=.tup []) n5
    have a6:=af.new (o:=.tup [.str "stop"]) n6
    have a7:=af.new (o:=.tup [.ref t5,.ref t6]) n7
    have a57:=(a5.trans a6).trans a7
    have ht5:=a7 _ _ (a6 _ _ (show (upd H9 t5 (.tup [])) t5=some (.tup []) from aa))
    have ht6:=a7 _ _ (show (upd (upd H9 t5 (.tup [])) t6 (.tup [.str "stop"])) t6=some (.tup [.str "stop"]) from aa)
    have ht7:(upd (upd (upd H9 t5 (.tup [])) t6 (.tup [.str "stop"])) t7 (.tup [.ref t5,.ref t6])) t7=some (.tup [.ref t5,.ref t6]):=aa
    generalize (upd (upd (upd H9 t5 (.tup [])) t6 (.tup [.str "stop"])) t7 (.tup [.ref t5,.ref t6]))=H12 at a57 ht5 ht6 ht7 ⊢
    refine⟨lz,_,_,rfl,rfl,a57 _ _ p1,d7 (by omega),?_⟩
    have P13:=eE.put (n:=(13+c)+16) (p:=([],.stop)) (a57 _ _ p1) (p2.same a57 (aS ps)) p3 p4 (.tup ht7 (.cons (.tup ht5 .nil) (.cons (.tup ht6 (.cons (.str _) .nil)) .nil))) ⟨⟨(by show 0<=6;decide),fun d hd=>by cases hd⟩,True.intro⟩
    have B13:cH (upd H12 lz (.lst (vs++[.ref t7]))) b:=by obtain⟨x,y,hb,r⟩:=B9;exact⟨x,y,by rw [ao nlb.symm];exact a57 _ _ hb,r⟩
    have X13:Fix b H (upd H12 lz (.lst (vs++[.ref t7]))):=fun c o e n=>by rw [ao (ar e nH)];exact a57 _ _ (X9 _ _ e n)
    generalize (upd H12 lz (.lst (vs++[.ref t7])))=H13 at P13 B13 X13 ⊢
    obtain⟨vs,ps,p1,p2,p3,p4⟩:=P13
    refine⟨_,rfl,lz,_,rfl,.inl ⟨aO.of p1,fun t nt=>?_⟩⟩
    have a8:=af.new (o:=.tup vs) nt
    obtain⟨g1,g2⟩:=eE.Eh (lz:=lz) (n:=(13+c)+16) p2 (by omega) p4 (show (upd H13 t (.tup vs)) t=some (.tup vs) from aa) (fun c zs e=>a8 _ _ e)
    exact q _ ps _ g1 g2 (by omega) (by omega) (B13.new nt) (X13.trans (Fix.new nt))
theorem lT {f:Addr} {fd:FuncData} (F:b0 K "_law_needed_right" "_law_needed_right" fT f fd) (Z:Bl mg) {C:Addr} (T:oX K C) (O_law_copies:Own P w K mg base "_law_copies" 6 ["plan", "most"] qB) (O_law_asked:Own P w K mg base "_law_asked" 10 ["plan", "most"] rE) (O_led_past:Own P w K mg base "led_past" 7 ["plan", "most"] (fm P w C)):bA P w K mg base bX 11 f fd ["plan"] wV:=by
 refine F.ok (k:=10) eF (fun vs H Q E h=>?_) (fun cdv A outer s H vs Q E hr h=>?_)
 ·obtain⟨plv,ps,xs,rfl,_⟩:=h
  rfl
 ·obtain⟨plv,ps,xs,rfl,hp,pok,nok,hx10,hn0,hn,q⟩:=h
  refine⟨_,(ae (aJ (i:=1) eF.nd (aT aU rfl Z.len bV (au (aG bf (aI O_law_copies hr (ay (pv 0) ai)) ai))))
   (ae (dQ (aJ (i:=2) eF.nd (aI O_law_asked hr (ay (pv 0) cE))))
   (ae (bg (aH iD (pv 1) ai (aP _))
   (ah (aF (gG cx (pv 2) ba (aP _))))
   aM)
   (ae (bg (PW.pt (ku (pH (gf (aT oG rfl Z.isinstance eO (ay (pv 2) (m3 (v:=.ty "int") rfl Z.int ma rfl))))) (ku (gf (aT oG rfl Z.isinstance eO (ay (pv 2) (m3 (v:=.ty "bool") rfl Z.bool Ce rfl)))) (j6 (aH w6 (pv 2) (pv 1) (aP _))))))
   (ah (aF fc))
   aM)
   (ae (aJ (i:=3) eF.nd (aI O_led_past hr (ay (pv 0) (pv 1))))
   (ah (aF (yh (gG cx (aT aU rfl Z.len bV (au (aG bf (pv 3) ai))) (pv 1) (aP _)) (j7 (gG (tW hr.units) (aI O_led_past hr (ay (pv 0) ai)) (pv 3) (aP _))))))))))),?_⟩
  refine⟨_,rfl,plv,ps,xs,400,rfl,hp,pok,nok,hx10,hn0,hn,(by decide),(by decide),fun v ds H1 cc r s1=>?_⟩
  obtain⟨lp,lvs,rfl,hlp,rl⟩:=aX.bP r
  obtain⟨ov,t1,rfl,ro,rl⟩:=rl.cons_inv
  obtain⟨cv,t2,rfl,rc,rl⟩:=rl.cons_inv
  have z':=rl.nil_inv
  subst z'
  obtain⟨cp,cvs,rfl,hcp,rcs⟩:=aX.bP rc
  have hcl:cvs.length=(bL ps 400).1.length:=rcs.len.trans cc.length
  refine⟨lp,_,_,_,rfl,rfl,av.of hlp,dA,cp,_,rfl,.inr (av.of hcp),?_⟩
  rw [hcl]
  refine bJ ?_
  have hp1:=hp.same s1 (dN _)
  obtain⟨need1,need2⟩:=Bd pok hn0
  clear hcl rcs hcp rc ro hlp cc
  refine⟨fun σ' H'=>∃v,σ' = [some plv,some (.int ((bL ps 400).1.length:Nat)),some v,none]/\af H H'/\(((bL ps 400).1.length<=300/\v=.int ((bL ps 400).1.length:Nat))\/(300<(bL ps 400).1.length/\v=.str "many")),?_,?_⟩
  ·refine⟨_,rfl,plv,.aZ,rfl,.need ps xs rfl hp1 pok nok hx10 hn0 hn (fun hc H2 s2=>?_) (fun hc H2 s2=>?_)⟩
   ·have h3:(bL ps 400).1.length<=300:=by
     by_cases z:300<(bL ps 400).1.length
     ·exact absurd (need2 z) (by omega)
     ·omega
    rw [(need1 h3).1]
    exact⟨_,rfl,s1.trans s2,.inl ⟨h3,rfl⟩⟩
   ·have h3:300<(bL ps 400).1.length:=by
     by_cases z:300<(bL ps 400).1.length
     ·exact z
     ·rw [(need1 (by omega)).1] at hc;exact absurd hc z
    exact⟨_,rfl,s1.trans s2,.inr ⟨h3,rfl⟩⟩
  rintro σ' H2 ⟨v,rfl,s2,hv⟩
  refine⟨_,rfl,_,_,rfl,rfl,_,rfl,?_⟩
  rcases hv with ⟨h3,rfl⟩ | ⟨h3,rfl⟩
  ·refine bh (decide_eq_false (by omega)) ?_
   have hd1:1<=(bL ps 400).1.length:=by
    obtain⟨_,_,more,e⟩:=kQ pok hn0 (by decide:1<=400)
    rw [e,Gq]
    show 1<=1+_
    omega
   obtain⟨e1,e2,e3⟩:=need1 h3
   refine⟨_,rfl,_,_,_,true,rfl,fY.int _,rfl,_,rfl,?_⟩
   refine bN ?_
   refine⟨_,rfl,_,_,_,false,rfl,fY.int _,rfl,_,rfl,?_⟩
   refine bN ?_
   refine⟨_,rfl,_,rfl,rfl,_,rfl,?_⟩
   refine bh (by simp) ?_
   have hp2:=hp.same s2 (dN _)
   refine⟨_,rfl,_,rfl,plv,ps,xs,(bL ps 400).1.length,rfl,hp2,pok,nok,hx10,hn0,hn,hd1,(by omega),fun v3 ds3 H3 cc3 r3 s3=>?_⟩
   refine bJ ?_
   rw [e3] at cc3 r3
   obtain⟨lp,lvs,rfl,hlp,rl⟩:=aX.bP r3
   obtain⟨ov,t1,rfl,ro,rl⟩:=rl.cons_inv
   obtain⟨cv,t2,rfl,rc,rl⟩:=rl.cons_inv
   have z':=rl.nil_inv
   subst z'
   obtain⟨cp,cvs,rfl,hcp,rcs⟩:=aX.bP rc
   have hcl:cvs.length=(bL ps 400).1.length:=rcs.len.trans cc3.length
   refine⟨_,rfl,lp,_,_,_,rfl,rfl,av.of hlp,dA,cp,_,rfl,.inr (av.of hcp),?_⟩
   rw [hcl]
   refine⟨_,rfl,rfl,_,rfl,?_⟩
   refine bY (by simp) ?_
   refine⟨_,rfl,plv,ps,xs,300,rfl,hp2.same s3 (dN _),pok,nok,hx10,hn0,hn,(by decide),(by decide),fun v4 ds4 H4 cc4 r4 s4=>?_⟩
   obtain⟨lay,dep⟩:=CP pok nok hn0 (by decide:1<=300) cc4
   rw [e2] at cc4 r4 lay dep
   obtain rfl:=CN cc3 cc4
   have nol:cq (uU (bL ps 400).2 ds3)=true:=by
    show (b4 _&&(b4 _&&true))=true
    rw [aS,fD cc3];rfl
   refine⟨_,rfl,uU (bL ps 400).2 ds3,uU (bL ps 400).2 ds3,r4,r3.same s4 nol,lay,lay,(by omega),?_⟩
   show Q (.bl (PyData.eqv _ _)) H4
   rw [PySem.SeqAt.eqv_refl _ lay]
   exact q _ ((s2.trans s3).trans s4)
  ·refine bY (decide_eq_true (by omega)) ?_
   exact⟨_,rfl,rfl,q _ s2⟩
theorem Ei {f:Addr} {fd:FuncData} (F:b0 K "law" "law" nG f fd) (Z:Bl mg) (O_law_bag:Own P w K mg base "_law_bag" 1 ["script", "k"] (Bx K)) (O_law_take:Own P w K mg base "_law_take" 1 ["bag", "many"] gQ) (O_law_plan:Own P w K mg base "_law_plan" 4 ["bag", "count", "most"] yI) (O_law_parting:Own P w K mg base "_law_parting" 3 ["bag"] nF) (O_law_border:Own P w K mg base "_law_border" 3 ["bag"] nF) (O_law_needed_right:Own P w K mg base "_law_needed_right" 11 ["plan"] wV) (O_law_asked:Own P w K mg base "_law_asked" 10 ["plan", "most"] rE):bA P w K mg base bX 12 f fd ["script"] (tH K):=by
 refine F.ok (k:=11) qF (fun vs H Q E h=>?_) (fun cdv A outer s H vs Q E hr h=>?_)
 ·obtain⟨a,ns,rfl,_⟩:=h
  rfl
 ·obtain⟨a,ns,rfl,hS,hlen,q⟩:=h
  refine⟨_,(ae (aJ (i:=1) qF.nd (aI O_law_bag hr (ay (pv 0) ai)))
   (ae (bg (pH (gf (aI O_law_needed_right hr (au (aI O_law_plan hr (gc (pv 1) (aY bR ai (aI O_law_take hr (ay (pv 1) ai))) ai))))))
   (ah (aF fc))
   aM)
   (ae (bg (PW.pt (ku (pH (gf (aI O_law_needed_right hr (au (aI O_law_parting hr (au (pv 1))))))) (j6 (pH (gf (aI O_law_needed_right hr (au (aI O_law_border hr (au (pv 1))))))))))
   (ah (aF fc))
   aM)
   (ae (aJ (i:=2) qF.nd (aI O_law_plan hr (gc (pv 1) (aY bR ai (aI O_law_take hr (ay (pv 1) ai))) ai)))
   (ae (bg (PW.pt (ku (aH w6 (aI O_law_asked hr (ay (pv 2) cE)) ba (aP _)) (j6 (aH w6 (aI O_law_asked hr (ay (pv 2) (aY bR ai (aI O_law_take hr (ay (pv 1) ai))))) ba (aP _)))))
   (ah (aF fc))
   aM)
   (ae (aJ (i:=2) qF.nd (aI O_law_plan hr (gc (pv 1) ai ai)))
   (ah (aF (aT oG rfl Z.isinstance eO (ay (aI O_law_asked hr (ay (pv 2) ai)) (m3 (v:=.ty "tuple") rfl Z.tuple cb rfl))))))))))),?_⟩
  refine⟨_,rfl,a,ns,0,rfl,hS,(by decide),fun b H1 nb B1 s1=>?_⟩
  refine bJ ?_
  refine⟨_,rfl,_,rfl,b,9,rfl,B1,⟨by decide,by decide +kernel⟩,fun z1 H2 z10 z11 B2 X2=>⟨_,_,rfl,rfl,?_⟩⟩
  obtain⟨c1,rfl⟩:∃c:Nat,z1=c:=⟨z1.toNat,by omega⟩
  refine⟨b,1+c1,3,rfl,B2,(by omega),(by omega),(by decide),fun pl1 xs1 ps1 H3 r3 l3 pok1 xok1 B3 X3=>?_⟩
  refine⟨pl1,ps1,xs1,rfl,r3,pok1.up (by decide),xok1.1,(by have:=xok1.2;omega),(by omega),(by omega),fun H4 s4=>⟨_,rfl,?_⟩⟩
  refine bh rfl ?_
  refine⟨_,rfl,b,rfl,B3.zH s4,fun pl2 ps2 H5 r5 pok2 hn2 hm2 B5 X5=>?_⟩
  refine⟨pl2,ps2,jO,rfl,r5,pok2,zG,(by decide),hn2,hm2,fun H6 s6=>⟨_,rfl,?_⟩⟩
  refine bN ?_
  refine⟨_,rfl,b,rfl,B5.zH s6,fun pl3 ps3 H7 r7 pok3 hn3 hm3 B7 X7=>?_⟩
  refine⟨pl3,ps3,jO,rfl,r7,pok3,zG,(by decide),hn3,hm3,fun H8 s8=>⟨_,rfl,?_⟩⟩
  refine bN ?_
  refine⟨_,rfl,_,rfl,b,20,rfl,B7.zH s8,⟨by decide,by decide +kernel⟩,fun z9 H9 z90 z91 B9 X9=>⟨_,_,rfl,rfl,?_⟩⟩
  obtain⟨c9,rfl⟩:∃c:Nat,z9=c:=⟨z9.toNat,by omega⟩
  refine⟨b,61+c9,1,rfl,B9,(by omega),(by omega),(by decide),fun pl4 xs4 ps4 H10 r10 l10 pok4 xok4 B10 X10=>?_⟩
  refine bJ ?_
  obtain⟨p4,vs4,rfl,e4,rv4⟩:=aX.bP (show aX H10 pl4 (.tuple (ps4.map bW)) from r10)
  have hv4:vs4.length=61+c9:=by have:=rv4.len;rw [Gi] at this;rw [this,l10]
  refine⟨_,rfl,.ref p4,.aZ,rfl,.many p4 vs4 rfl (.inl rfl) e4 (by omega) (by omega) fun H11 s11=>?_⟩
  refine⟨rfl,_,rfl,?_⟩
  refine bN ?_
  have B11:=B10.zH s11
  refine⟨_,rfl,_,rfl,b,300,rfl,B11,⟨by decide,by decide +kernel⟩,fun z12 H12 z120 z121 B12 X12=>⟨_,_,rfl,rfl,?_⟩⟩
  have e12:=X12 _ _ (s11 _ _ e4) (B11.gK (s11 _ _ e4))
  refine⟨.ref p4,_,rfl,.many p4 vs4 rfl (.inr ⟨_,rfl⟩) e12 (by omega) (by omega) fun H13 s13=>?_⟩
  refine⟨rfl,_,rfl,?_⟩
  refine bN ?_
  refine⟨_,rfl,b,60,1,rfl,B12.zH s13,(by decide),(by decide),(by decide),fun pl5 xs5 ps5 H14 r14 l14 pok5 xok5 B14 X14=>?_⟩
  refine bJ ?_
  refine⟨_,rfl,pl5,_,rfl,.led ps5 xs5 60 rfl r14 (pok5.up (by decide)) xok5.1 (by have:=xok5.2;omega) (by omega) (by omega) (by decide) (by decide) fun v ds H15 cc r15 s15=>?_⟩
  obtain⟨lp,lvs,rfl,hlp,rl⟩:=aX.bP r15
  exact⟨_,_,_,true,rfl,fY.tup hlp,rfl,q _⟩
end
theorem all_mk {l:PySem.W.OpenLaw} {w:World} {K:Gh} {h:Heap} {mg:Str->Option Value} {fa:Addr} (X:K.In h) (G:h.Ns mainGlobals mg) (hfa:mg "law" = some (.ref fa))
  {f0 f1 f2 f3 f4 f5 f6 f7 f8 f9 f10 f11 f12 f13 f14 f15 f16 f17 f18 f19 f20 f21 f22 f23 f24 f25 f26 f27 f28 f29 f30 f31 f32 f33 f34 f35 f36 f37 f38 f39 f40 f41 f42 f43 f44 f45 f46 f47 f48 f49 f50:Addr} {g0 g1 g2 g3 g4 g5 g6 g7 g8 g9 g10 g11 g12 g13 g14 g15 g16 g17 g18 g19 g20 g21 g22 g23 g24 g25 g26 g27 g28 g29 g30 g31 g32 g33 g34 g35 g36 g37 g38 g39 g40 g41 g42 g43 g44 g45 g46 g47 g48 g49 g50:FuncData}
  {aA:Addr} {dcA:Option Addr} {nA:Nat} {slA:Array (Option Value)}
  {cP cM cN cR cL cO:Addr}
  {tk_MOST_TO_LEAD:Tok}
  {tk_MOST_NEEDED:Tok}
  {aE:Addr} {epE:Nat} {s0:Addr} {hsE0:Int} {tkE0:Tok} {dcE0:Option Addr} {nnE0:Nat} {slE0:Array (Option Value)}  {s1:Addr} {hsE1:Int} {tkE1:Tok} {dcE1:Option Addr} {nnE1:Nat} {slE1:Array (Option Value)} {ttE1_0:Tok} {s2:Addr} {hsE2:Int} {tkE2:Tok} {dcE2:Option Addr} {nnE2:Nat} {slE2:Array (Option Value)} {ttE2_0:Tok} {ttE2_1:Tok} {ttE2_2:Tok} {ttE2_3:Tok} {s3:Addr} {hsE3:Int} {tkE3:Tok} {dcE3:Option Addr} {nnE3:Nat} {slE3:Array (Option Value)} {ttE3_0:Tok} {ttE3_1:Tok} {ttE3_2:Tok} {ttE3_3:Tok}
  {aD:Addr} {epD:Nat} {d0:Addr} {hsD0:Int} {tkD0:Tok} {dcD0:Option Addr} {nnD0:Nat} {slD0:Array (Option Value)} {ttD0_0:Tok} {ttD0_1:Tok} {d1:Addr} {hsD1:Int} {tkD1:Tok} {dcD1:Option Addr} {nnD1:Nat} {slD1:Array (Option Value)} {ttD1_0:Tok} {ttD1_1:Tok} {d2:Addr} {hsD2:Int} {tkD2:Tok} {dcD2:Option Addr} {nnD2:Nat} {slD2:Array (Option Value)} {ttD2_0:Tok} {ttD2_1:Tok} {d3:Addr} {hsD3:Int} {tkD3:Tok} {dcD3:Option Addr} {nnD3:Nat} {slD3:Array (Option Value)} {ttD3_0:Tok} {d4:Addr} {hsD4:Int} {tkD4:Tok} {dcD4:Option Addr} {nnD4:Nat} {slD4:Array (Option Value)} {ttD4_0:Tok}
  {C:Addr}
  (z_len:GG K mainGlobals "len" = some none)
  (z_zip:GG K mainGlobals "zip" = some none)
  (z_tuple:GG K mainGlobals "tuple" = some none)
  (z_sorted:GG K mainGlobals "sorted" = some none)
  (z_set:GG K mainGlobals "set" = some none)
  (z_dict:GG K mainGlobals "dict" = some none)
  (z_min:GG K mainGlobals "min" = some none)
  (z_max:GG K mainGlobals "max" = some none)
  (z_range:GG K mainGlobals "range" = some none)
  (z_list:GG K mainGlobals "list" = some none)
  (z_int:GG K mainGlobals "int" = some none)
  (z_bool:GG K mainGlobals "bool" = some none)
  (z_isinstance:GG K mainGlobals "isinstance" = some none)
  (z_ValueError:GG K mainGlobals "ValueError" = some none)
  (gA:GG K mainGlobals "ALL" = some (some (.ref aA))) (lA:K.lookup aA=some ⟨.type "tuple",dcA,.seq #[.none,.none] nA,slA⟩)
  (xgP:GG K mainGlobals "PlanError" = some (some (.ref cP))) (xgM:GG K mainGlobals "TooMany" = some (some (.ref cM))) (xgN:GG K mainGlobals "NoPiece" = some (some (.ref cN))) (xgR:GG K mainGlobals "NoRow" = some (some (.ref cR))) (xgL:GG K mainGlobals "NothingLeft" = some (some (.ref cL))) (xgO:GG K mainGlobals "NoPlan" = some (some (.ref cO))) (xoP:PySem.W.excIn K cP [.type "ValueError",.type "Exception",.type "BaseException",.type "object"] "ValueError.__new__" = true) (xaP:GU K (.ref cP) "__getattribute__" = some (some (.builtin "BaseException.__getattribute__"))) (xnP:GU K (.ref cP) "__getattr__" = some none) (xcP:GU K (.ref cP) "__class__" = some (some (.builtin "object.__class__"))) (xbP:HG K cP (.type "object")=some true) (xxP:HG K cP (.type "BaseException")=some true) (xoM:PySem.W.excIn K cM [.type "ValueError",.type "Exception",.type "BaseException",.type "object"] "ValueError.__new__" = true) (xaM:GU K (.ref cM) "__getattribute__" = some (some (.builtin "BaseException.__getattribute__"))) (xnM:GU K (.ref cM) "__getattr__" = some none) (xcM:GU K (.ref cM) "__class__" = some (some (.builtin "object.__class__"))) (xbM:HG K cM (.type "object")=some true) (xxM:HG K cM (.type "BaseException")=some true) (xyP:PySem.W.typeIn K (.ref cP)=some (.type "type")) (xsM:HG K cM (.ref cP)=some true) (xkM:PySem.W.kitOne K (.ref cM) (.type "ValueError")=some true) (xmM:PySem.W.kitAny K (.ref cM) [.ref cN,.ref cO,.ref cR,.ref cL]=some false)
  (g_MOST_TO_LEAD:GG K mainGlobals "MOST_TO_LEAD" = some (some (.int 60 tk_MOST_TO_LEAD)))
  (g_MOST_NEEDED:GG K mainGlobals "MOST_NEEDED" = some (some (.int 300 tk_MOST_NEEDED)))
  (gE:GG K mainGlobals "END_PARTS" = some (some (.ref aE))) (lE:K.lookup aE=some ⟨.type "dict",none,.dict #[⟨hsE0,.str "stop" tkE0,.ref s0⟩,⟨hsE1,.str "go" tkE1,.ref s1⟩,⟨hsE2,.str "less" tkE2,.ref s2⟩,⟨hsE3,.str "is" tkE3,.ref s3⟩] epE,#[]⟩) (qE0:K.lookup s0=some ⟨.type "tuple",dcE0,.seq #[] nnE0,slE0⟩) (qE1:K.lookup s1=some ⟨.type "tuple",dcE1,.seq #[.str "piece" ttE1_0] nnE1,slE1⟩) (qE2:K.lookup s2=some ⟨.type "tuple",dcE2,.seq #[.str "name" ttE2_0,.str "number" ttE2_1,.str "piece" ttE2_2,.str "piece" ttE2_3] nnE2,slE2⟩) (qE3:K.lookup s3=some ⟨.type "tuple",dcE3,.seq #[.str "name" ttE3_0,.str "number" ttE3_1,.str "piece" ttE3_2,.str "piece" ttE3_3] nnE3,slE3⟩)
  (gD:GG K mainGlobals "DEED_PARTS" = some (some (.ref aD))) (lD:K.lookup aD=some ⟨.type "dict",none,.dict #[⟨hsD0,.str "put" tkD0,.ref d0⟩,⟨hsD1,.str "copy" tkD1,.ref d1⟩,⟨hsD2,.str "add" tkD2,.ref d2⟩,⟨hsD3,.str "read" tkD3,.ref d3⟩,⟨hsD4,.str "tell" tkD4,.ref d4⟩] epD,#[]⟩) (qD0:K.lookup d0=some ⟨.type "tuple",dcD0,.seq #[.str "name" ttD0_0,.str "number" ttD0_1] nnD0,slD0⟩) (qD1:K.lookup d1=some ⟨.type "tuple",dcD1,.seq #[.str "name" ttD1_0,.str "name" ttD1_1] nnD1,slD1⟩) (qD2:K.lookup d2=some ⟨.type "tuple",dcD2,.seq #[.str "name" ttD2_0,.str "number" ttD2_1] nnD2,slD2⟩) (qD3:K.lookup d3=some ⟨.type "tuple",dcD3,.seq #[.str "name" ttD3_0] nnD3,slD3⟩) (qD4:K.lookup d4=some ⟨.type "tuple",dcD4,.seq #[.str "name" ttD4_0] nnD4,slD4⟩)
  (aCC:GG K mainGlobals "Row" = some (some (.ref C))) (pgC:HP K C Str.empty=true) (hdC:Ih K C=true) (poC:IL K C=true) (saC:GU K (.ref C) "__setattr__" = some (some (.builtin "object.__setattr__"))) (mkC:Ii K C=true) (kcC:Hd K (.ref C)=true)
  (nC_members:GU K (.ref C) "members" = some none)
  (nC_places:GU K (.ref C) "places" = some none)
  (D0:bI K "parts_of_kind" hV f0 g0)
  (D1:bI K "ways_on" mR f1 g1)
  (D2:bI K "without_ways" iw f2 g2)
  (D3:bI K "names_of" kW f3 g3)
  (D4:bI K "lies_in" mS f4 g4)
  (D5:bI K "part_below" jw f5 g5)
  (D6:bI K "part_from" jV f6 g6)
  (D7:bI K "part_at" mT f7 g7)
  (D8:bI K "part_beside" iX f8 g8)
  (D9:bI K "part_of" mU f9 g9)
  (D10:bI K "facts_of" kY f10 g10)
  (D11:bI K "known" rF f11 g11)
  (D12:bI K "with_known" jx f12 g12)
  (D13:bI K "moved" rG f13 g13)
  (D14:bI K "stretch_behind" gF f14 g14)
  (D15:bI K "behind" ph f15 g15)
  (D16:bI K "known_beyond" iy f16 g16)
  (D17:bI K "leads" rH f17 g17)
  (D18:bI K "start" rJ f18 g18)
  (D19:qx K C "__init__" "Row.__init__" iz f19 g19)
  (D20:qx K C "place_of" "Row.place_of" iA f20 g20)
  (D21:bI K "reached" mW f21 g21)
  (D22:bI K "heads" rK f22 g22)
  (D23:bI K "copy_for" lg f23 g23)
  (D24:bI K "end_to" pA f24 g24)
  (D25:bI K "led_past" lh f25 g25)
  (D26:bI K "needed" pB f26 g26)
  (D27:bI K "_law_bag" mY f27 g27)
  (D28:bI K "_law_take" lq f28 g28)
  (D29:bI K "_law_names" jW f29 g29)
  (D30:bI K "_law_number" jy f30 g30)
  (D31:bI K "_law_deed" lr f31 g31)
  (D32:bI K "_law_end" mZ f32 g32)
  (D33:bI K "_law_plan" lu f33 g33)
  (D34:bI K "_law_all_names" h9 f34 g34)
  (D35:bI K "_law_part" lB f35 g35)
  (D36:bI K "_law_with" lC f36 g36)
  (D37:bI K "_law_behind" jA f37 g37)
  (D38:bI K "_law_leads" jZ f38 g38)
  (D39:bI K "_law_told" lF f39 g39)
  (D40:bI K "_law_ways" lG f40 g40)
  (D41:bI K "_law_reached" iY f41 g41)
  (D42:bI K "_law_heads" j0 f42 g42)
  (D43:bI K "_law_table_of" iB f43 g43)
  (D44:bI K "_law_piece" j1 f44 g44)
  (D45:bI K "_law_copies" jC f45 g45)
  (D46:bI K "_law_asked" j2 f46 g46)
  (D47:bI K "_law_parting" iZ f47 g47)
  (D48:bI K "_law_border" jD f48 g48)
  (D49:bI K "_law_needed_right" fT f49 g49)
  (D50:bI K "law" nG f50 g50) :
  ∃fd:FuncData,(∀(s:Shared) (v:Value),BindsTo s fd ⟨[v],[]⟩ [("script",v)])/\∀base:Heap,K.In base->base.Ns mainGlobals mg->bA l.prog w K mg base bX 12 fa fd ["script"] (tH K):=by
 have e:=hfa.symm.trans (G8 X G D50.a)
 cases e
 have Z:Bl mg:=⟨Ha X G z_len,Ha X G z_zip,Ha X G z_tuple,Ha X G z_sorted,Ha X G z_set,Ha X G z_dict,Ha X G z_min,Ha X G z_max,Ha X G z_range,Ha X G z_list,Ha X G z_int,Ha X G z_bool,Ha X G z_isinstance,Ha X G z_ValueError⟩
 have GA:iU K mg aA:=⟨G8 X G gA,_,_,_,lA⟩
 have GX:xT K mg cP cM cN cR cL cO:=⟨G8 X G xgP,G8 X G xgM,G8 X G xgN,G8 X G xgR,G8 X G xgL,G8 X G xgO,⟨xoP,xaP,xnP,xcP,xbP,xxP⟩,⟨xoM,xaM,xnM,xcM,xbM,xxM⟩,xyP,xsM,xkM,xmM⟩
 have G_MOST_TO_LEAD:mg "MOST_TO_LEAD" = some (.int 60 tk_MOST_TO_LEAD):=G8 X G g_MOST_TO_LEAD
 have G_MOST_NEEDED:mg "MOST_NEEDED" = some (.int 300 tk_MOST_NEEDED):=G8 X G g_MOST_NEEDED
 have GE:ug K mg aE s0 s1 s2 s3:=⟨⟨G8 X G gE,_,_,lE,(.cons rfl rfl (.cons rfl rfl (.cons rfl rfl (.cons rfl rfl .nil))))⟩,⟨_,_,_,qE0,rfl,rfl,(by show 0<=sizeLine;decide),.nil⟩,⟨_,_,_,qE1,rfl,rfl,(by show 1<=sizeLine;decide),(.cons ⟨_,rfl⟩ .nil)⟩,⟨_,_,_,qE2,rfl,rfl,(by show 4<=sizeLine;decide),(.cons ⟨_,rfl⟩ (.cons ⟨_,rfl⟩ (.cons ⟨_,rfl⟩ (.cons ⟨_,rfl⟩ .nil))))⟩,⟨_,_,_,qE3,rfl,rfl,(by show 4<=sizeLine;decide),(.cons ⟨_,rfl⟩ (.cons ⟨_,rfl⟩ (.cons ⟨_,rfl⟩ (.cons ⟨_,rfl⟩ .nil))))⟩⟩
 have GD:tI K mg aD d0 d1 d2 d3 d4:=⟨⟨G8 X G gD,_,_,lD,(.cons rfl rfl (.cons rfl rfl (.cons rfl rfl (.cons rfl rfl (.cons rfl rfl .nil)))))⟩,⟨_,_,_,qD0,rfl,rfl,(by show 2<=sizeLine;decide),(.cons ⟨_,rfl⟩ (.cons ⟨_,rfl⟩ .nil))⟩,⟨_,_,_,qD1,rfl,rfl,(by show 2<=sizeLine;decide),(.cons ⟨_,rfl⟩ (.cons ⟨_,rfl⟩ .nil))⟩,⟨_,_,_,qD2,rfl,rfl,(by show 2<=sizeLine;decide),(.cons ⟨_,rfl⟩ (.cons ⟨_,rfl⟩ .nil))⟩,⟨_,_,_,qD3,rfl,rfl,(by show 1<=sizeLine;decide),(.cons ⟨_,rfl⟩ .nil)⟩,⟨_,_,_,qD4,rfl,rfl,(by show 1<=sizeLine;decide),(.cons ⟨_,rfl⟩ .nil)⟩⟩
 have T:oX K C:=⟨⟨pgC,hdC,poC,saC⟩,nC_members,nC_places⟩
 obtain⟨oc,od,kV,dc,pm,an,cd,ct,sl,rfl,lk,hcd⟩:=D50.F.ex
 refine⟨G5 "law" "law" (dX nG) (dt nG) (aw nG) .none kV dc pm an cd ct,fun s v=>.of_eq rfl,fun base _ _=>?_⟩
 have O_parts_of_kind:=bG l.prog w base X G D0 (pC D0.F Z) (zB fun _ _ _ _ _ _ _ _ _=>rfl)
 have O_ways_on:=bG l.prog w base X G D1 (xX D1.F Z GE O_parts_of_kind) (hU fun _ _ _ _ _ _ _=>rfl)
 have O_without_ways:=bG l.prog w base X G D2 (qG D2.F Z O_ways_on) (hU fun _ _ _ _ _ _ _=>rfl)
 have O_names_of:=bG l.prog w base X G D3 (vt D3.F Z GD GE O_parts_of_kind) (hU fun _ _ _ _ _ _ _=>rfl)
 have O_lies_in:=bG l.prog w base X G D4 (xY D4.F Z) (fQ fun _ _ _ _ _ _ _ _=>rfl)
 have O_part_below:=bG l.prog w base X G D5 (tf D5.F Z) (fQ fun _ _ _ _ _ _ _ _=>rfl)
 have O_part_from:=bG l.prog w base X G D6 (uZ D6.F Z) (fQ fun _ _ _ _ _ _ _ _=>rfl)
 have O_part_at:=bG l.prog w base X G D7 (xZ D7.F Z O_lies_in) (fQ fun _ _ _ _ _ _ _ _=>rfl)
 have O_part_beside:=bG l.prog w base X G D8 (rL D8.F Z) (fQ fun _ _ _ _ _ _ _ _=>rfl)
 have O_part_of:=bG l.prog w base X G D9 (x8 D9.F Z O_part_below O_part_from O_part_at O_part_beside) (Ec fun _ _ _ _ _ _ _ _ _ _=>rfl)
 have O_facts_of:=bG l.prog w base X G D10 (vv D10.F Z GA) (hU fun _ _ _ _ _ _ _=>rfl)
 have O_known:=bG l.prog w base X G D11 (Bj D11.F Z GA) (fQ fun _ _ _ _ _ _ _ _=>rfl)
 have O_with_known:=bG l.prog w base X G D12 (tj D12.F Z GA O_facts_of) (zB fun _ _ _ _ _ _ _ _ _=>rfl)
 have O_moved:=bG l.prog w base X G D13 (Bk D13.F Z) (fQ fun _ _ _ _ _ _ _ _=>rfl)
 have O_stretch_behind:=bG l.prog w base X G D14 (nK D14.F Z GA O_moved) (fQ fun _ _ _ _ _ _ _ _=>rfl)
 have O_behind:=bG l.prog w base X G D15 (zJ D15.F Z GA O_stretch_behind O_facts_of) (fQ fun _ _ _ _ _ _ _ _=>rfl)
 have O_known_beyond:=bG l.prog w base X G D16 (qH D16.F Z GA O_ways_on O_known O_part_of O_with_known) (fQ fun _ _ _ _ _ _ _ _=>rfl)
 have O_leads:=bG l.prog w base X G D17 (Bm D17.F Z O_known_beyond O_ways_on) (fQ fun _ _ _ _ _ _ _ _=>rfl)
 have O_start:=bG l.prog w base X G D18 (Bn D18.F Z O_names_of) (hU fun _ _ _ _ _ _ _=>rfl)
 have O_Row___init__:=CS l.prog w base X G aCC mkC kcC D19 (qI D19.F Z T) (fQ fun _ _ _ _ _ _ _ _=>rfl)
 have O_Row_place_of:=CQ l.prog w base mg T.cl D20 (qJ D20.F Z T) (fQ fun _ _ _ _ _ _ _ _=>rfl)
 have O_reached:=bG l.prog w base X G D21 (x9 D21.F Z O_ways_on) (hU fun _ _ _ _ _ _ _=>rfl)
 have O_heads:=bG l.prog w base X G D22 (Bo D22.F Z O_reached O_ways_on) (hU fun _ _ _ _ _ _ _=>rfl)
 have O_copy_for:=bG l.prog w base X G D23 (vw D23.F Z) (Ec fun _ _ _ _ _ _ _ _ _ _=>rfl)
 have O_end_to:=bG l.prog w base X G D24 (zK D24.F Z O_without_ways) (fQ fun _ _ _ _ _ _ _ _=>rfl)
 have OX_led_past:=wU l.prog w base X G D25 (vx D25.F Z G_MOST_TO_LEAD G_MOST_NEEDED GX T O_heads O_start O_Row___init__ O_Row_place_of O_behind O_leads O_copy_for O_end_to) (fQ fun _ _ _ _ _ _ _ _=>rfl)
 have O_led_past:=OX_led_past.calm (sp':=fm l.prog w C) fun _ _ _ _ h=>.inl (Be h)
 have OX_needed:=wU l.prog w base X G D26 (zL D26.F Z G_MOST_TO_LEAD G_MOST_NEEDED GX T OX_led_past) (hU fun _ _ _ _ _ _ _=>rfl)
 have O_needed:=OX_needed.calm (sp':=fun _ _ _ _=>False) fun _ _ _ _ h=>h.elim
 have O_law_bag:=bG l.prog w base X G D27 (ya D27.F Z) (fQ fun _ _ _ _ _ _ _ _=>rfl)
 have O_law_take:=bG l.prog w base X G D28 (vy D28.F Z) (fQ fun _ _ _ _ _ _ _ _=>rfl)
 have O_law_names:=bG l.prog w base X G D29 (u7 D29.F Z O_law_take) (hU fun _ _ _ _ _ _ _=>rfl)
 have O_law_number:=bG l.prog w base X G D30 (tm D30.F Z O_law_take) (hU fun _ _ _ _ _ _ _=>rfl)
 have O_law_deed:=bG l.prog w base X G D31 (vz D31.F Z O_law_take O_law_number) (fQ fun _ _ _ _ _ _ _ _=>rfl)
 have O_law_end:=bG l.prog w base X G D32 (yb D32.F Z O_law_take O_law_number) (zB fun _ _ _ _ _ _ _ _ _=>rfl)
 have O_law_plan:=bG l.prog w base X G D33 (vA D33.F Z O_law_take O_law_names O_law_deed O_law_end) (zB fun _ _ _ _ _ _ _ _ _=>rfl)
 have O_law_all_names:=bG l.prog w base X G D34 (pD D34.F Z) (hU fun _ _ _ _ _ _ _=>rfl)
 have O_law_part:=bG l.prog w base X G D35 (vB D35.F Z) (Ec fun _ _ _ _ _ _ _ _ _ _=>rfl)
 have O_law_with:=bG l.prog w base X G D36 (vC D36.F Z) (zB fun _ _ _ _ _ _ _ _ _=>rfl)
 have O_law_behind:=bG l.prog w base X G D37 (tq D37.F Z O_law_with) (fQ fun _ _ _ _ _ _ _ _=>rfl)
 have O_law_leads:=bG l.prog w base X G D38 (u9 D38.F Z O_law_part O_law_with) (fQ fun _ _ _ _ _ _ _ _=>rfl)
 have O_law_told:=bG l.prog w base X G D39 (vD D39.F Z) (hU fun _ _ _ _ _ _ _=>rfl)
 have O_law_ways:=bG l.prog w base X G D40 (vE D40.F Z) (hU fun _ _ _ _ _ _ _=>rfl)
 have O_law_reached:=bG l.prog w base X G D41 (rM D41.F Z O_law_ways) (hU fun _ _ _ _ _ _ _=>rfl)
 have O_law_heads:=bG l.prog w base X G D42 (va D42.F Z O_law_reached O_law_ways) (hU fun _ _ _ _ _ _ _=>rfl)
 have O_law_table_of:=bG l.prog w base X G D43 (qK D43.F Z) (hU fun _ _ _ _ _ _ _=>rfl)
 have O_law_piece:=bG l.prog w base X G D44 (vb D44.F Z) (fQ fun _ _ _ _ _ _ _ _=>rfl)
 have O_law_copies:=bG l.prog w base X G D45 (tu D45.F Z O_law_heads O_law_all_names O_law_told O_law_piece O_law_table_of O_law_behind O_law_leads) (fQ fun _ _ _ _ _ _ _ _=>rfl)
 have O_law_asked:=bG l.prog w base X G D46 (vc D46.F Z GX T OX_needed OX_led_past) (fQ fun _ _ _ _ _ _ _ _=>rfl)
 have O_law_parting:=bG l.prog w base X G D47 (rN D47.F Z O_law_take) (hU fun _ _ _ _ _ _ _=>rfl)
 have O_law_border:=bG l.prog w base X G D48 (tw D48.F Z O_law_take) (hU fun _ _ _ _ _ _ _=>rfl)
 have O_law_needed_right:=bG l.prog w base X G D49 (lT D49.F Z T O_law_copies O_law_asked O_led_past) (hU fun _ _ _ _ _ _ _=>rfl)
 exact Ei D50.F Z O_law_bag O_law_take O_law_plan O_law_parting O_law_border O_law_needed_right O_law_asked
theorem walk {l:PySem.W.OpenLaw}{q:Program}{loose:List Str}{XP:(Str->Option Value)->Heap->Prop}{YP:World->Heap->Prop}{d:DefRec}{K:Params->Gh}(hn:l.most=some 63)(hdf:d.params.defaults=[])
  (hY:∀(w:World) (h:Heap),YP w h->(K w.params).In h)
  (F:∀(w:World) (mg:Str->Option Value) (fa:Addr) (h:Heap),(K w.params).In h->h.Ns mainGlobals mg->mg d.name=some (.ref fa) ->
   ∃fd:FuncData,(∀(s:Shared) (u:Value),BindsTo s fd ⟨[u],[]⟩ [("script",u)])/\∀base:Heap,(K w.params).In base->base.Ns mainGlobals mg->bA l.prog w (K w.params) mg base bX 12 fa fd ["script"] (tH (K w.params))) :
  PySem.W.WalkO q loose XP YP l.row.toRowW d [] (fun f vs=>PySem.call f vs) :=
 L2.Cc (n:=63) (k:=12) (x := "script") (CX:=fun _=>bX) (sp:=fun w=>tH (K w.params)) hn (by decide) hdf ⟨rfl,by decide,by decide⟩ hY F (fun _ _ a ns hl _ hS=>⟨a,ns,rfl,hS,hl,fun _=>rfl⟩) fun _ _ _ _ _ z=>z
end My
theorem PySem.W.Fast.tw4753872575993033433:True:=trivial
theorem PySem.W.Fast.tw7845375244991750347:True:=trivial
theorem PySem.W.Fast.tw11065037620536216779:True:=trivial
theorem PySem.W.Fast.tw2535751239281760162:True:=trivial
theorem PySem.W.Fast.tw5528226937746178950:True:=trivial
theorem PySem.W.Fast.tw4159087987102407666:True:=trivial
theorem PySem.W.Fast.tw11217105411978676063:True:=trivial
theorem PySem.W.Fast.tw7438113207330679523:True:=trivial
theorem PySem.W.Fast.tw926629108853904427:True:=trivial
theorem PySem.W.Fast.tw258662822082100505:True:=trivial
theorem PySem.W.Fast.tw12934557913006516001:True:=trivial
theorem PySem.W.Fast.tw9284373628849318241:True:=trivial
theorem PySem.W.Fast.tw12688175685236499186:True:=trivial
theorem PySem.W.Fast.tw6979963431683578996:True:=trivial
theorem PySem.W.Fast.tw8241093429115036351:True:=trivial
theorem PySem.W.Fast.tw17091934698873053762:True:=trivial
theorem PySem.W.Fast.tw6668453181992344756:True:=trivial
theorem PySem.W.Fast.tw6653209450188886494:True:=trivial
theorem PySem.W.Fast.tw10953015110338165043:True:=trivial
theorem PySem.W.Fast.tw9256719867251637403:True:=trivial
theorem PySem.W.Fast.tw4226488984955541455:True:=trivial
theorem PySem.W.Fast.tw15343705591421446876:True:=trivial
theorem PySem.W.Fast.tw12147048571545948840:True:=trivial
theorem PySem.W.Fast.tw5751087238570201737:True:=trivial
theorem PySem.W.Fast.tw14105731279583861480:True:=trivial
theorem PySem.W.Fast.tw7521163977977365407:True:=trivial
theorem PySem.W.Fast.tw10277893710134589063:True:=trivial
theorem PySem.W.Fast.tw10115342026673799883:True:=trivial
theorem PySem.W.Fast.tw6544085126420230440:True:=trivial
theorem PySem.W.Fast.tw18225785700295726487:True:=trivial
theorem PySem.W.Fast.tw16481679737856215039:True:=trivial
theorem PySem.W.Fast.tw2602504192730696056:True:=trivial
theorem PySem.W.Fast.tw16694486659103072620:True:=trivial
theorem PySem.W.Fast.tw8702081014578552309:True:=trivial
theorem PySem.W.Fast.tw2597247446985861715:True:=trivial
theorem PySem.W.Fast.tw13845383956979285492:True:=trivial
theorem PySem.W.Fast.tw18407104506093767860:True:=trivial
theorem PySem.W.Fast.tw15755520035452540411:True:=trivial
theorem PySem.W.Fast.tw4404955194658913323:True:=trivial
theorem PySem.W.Fast.tw12325424555490172865:True:=trivial
theorem PySem.W.Fast.tw309528892302442968:True:=trivial
theorem PySem.W.Fast.tw8582350579643329486:True:=trivial
theorem PySem.W.Fast.tw6903321516798489963:True:=trivial
theorem PySem.W.Fast.tw11564076512807862822:True:=trivial
theorem PySem.W.Fast.tw1420286754749142699:True:=trivial
theorem PySem.W.Fast.tw10411581315813078411:True:=trivial
theorem PySem.W.Fast.tw17605849599304302125:True:=trivial
theorem PySem.W.Fast.tw6953664544706223921:True:=trivial
theorem PySem.W.Fast.tw3338166118466475472:True:=trivial
theorem PySem.W.Fast.tw1581028785069739776:True:=trivial
theorem PySem.W.Fast.tw17671210869572129946:True:=trivial
theorem PySem.W.Fast.tw18230498695999392570:True:=trivial
theorem PySem.W.Fast.tw15277319997459446693:True:=trivial
theorem PySem.W.Fast.tw4240568871419584185:True:=trivial
theorem PySem.W.Fast.tw6402504547877711859:True:=trivial
theorem PySem.W.Fast.tw10201645081788782728:True:=trivial
theorem PySem.W.Fast.tw10196852385129753910:True:=trivial
theorem PySem.W.Fast.tw11677551234780151371:True:=trivial
theorem PySem.W.Fast.tw882553332553601097:True:=trivial
theorem PySem.W.Fast.tw13339876180548619342:True:=trivial
theorem PySem.W.Fast.tw4076463026479866305:True:=trivial
theorem PySem.W.Fast.tw11630892208914956617:True:=trivial
theorem PySem.W.Fast.tw5068893091886866081:True:=trivial
theorem PySem.W.Fast.tw2177202485970379345:True:=trivial
theorem PySem.W.Fast.tw12191157401560323884:True:=trivial
theorem PySem.W.Fast.tw6187417283679784359:True:=trivial
theorem PySem.W.Fast.tw16223396388182576190:True:=trivial
theorem PySem.W.Fast.tw5644921248353275332:True:=trivial
theorem PySem.W.Fast.tw16461830506581706563:True:=trivial
theorem PySem.W.Fast.tw13470300725141509182:True:=trivial
theorem PySem.W.Fast.tw3017184167383797437:True:=trivial
theorem PySem.W.Fast.tw14180847840437483419:True:=trivial
theorem PySem.W.Fast.tw14648387097858648404:True:=trivial
theorem PySem.W.Fast.tw12471576550048286261:True:=trivial
theorem PySem.W.Fast.tw16125786915805938727:True:=trivial
theorem PySem.W.Fast.tw7812448890257649500:True:=trivial
theorem PySem.W.Fast.tw12286294991524835604:True:=trivial
theorem PySem.W.Fast.tw8377960189763194097:True:=trivial
theorem PySem.W.Fast.tw13997911784063293544:True:=trivial
theorem PySem.W.Fast.tw17501302969788682658:True:=trivial
theorem PySem.W.Fast.tw17642299961847290070:True:=trivial
theorem PySem.W.Fast.tw17697104426859340046:True:=trivial
theorem PySem.W.Fast.tw9019838770854134191:True:=trivial
theorem PySem.W.Fast.tw4963622688491100703:True:=trivial
theorem PySem.W.Fast.tw16699256415836842022:True:=trivial
theorem PySem.W.Fast.tw6746731661670483286:True:=trivial
theorem PySem.W.Fast.tw10964811141626098646:True:=trivial
theorem PySem.W.Fast.tw6450828230972323133:True:=trivial
theorem PySem.W.Fast.tw8473780724148948002:True:=trivial
theorem PySem.W.Fast.tw5845973287649327551:True:=trivial
theorem PySem.W.Fast.tw12836143713771181048:True:=trivial
theorem PySem.W.Fast.tw9189595665022777195:True:=trivial
theorem PySem.W.Fast.tw6244035609885201593:True:=trivial
theorem PySem.W.Fast.tw12273099357368594699:True:=trivial
theorem PySem.W.Fast.tw16841752720229187880:True:=trivial
theorem PySem.W.Fast.tw7510344867399153231:True:=trivial
theorem PySem.W.Fast.tw15191139907477117591:True:=trivial
theorem PySem.W.Fast.tw7715314956985576011:True:=trivial
theorem PySem.W.Fast.tw12585672658598506920:True:=trivial
theorem PySem.W.Fast.tw17552431939687782197:True:=trivial
theorem PySem.W.Fast.tw12671477072114405543:True:=trivial
theorem PySem.W.Fast.tw15952181475399361933:True:=trivial
theorem PySem.W.Fast.tw8667647547333360340:True:=trivial
theorem PySem.W.Fast.tw14075885539534742311:True:=trivial
theorem PySem.W.Fast.tw6976414633698718711:True:=trivial
theorem PySem.W.Fast.tw16779893482527073868:True:=trivial
theorem PySem.W.Fast.tw15192317298285246186:True:=trivial
theorem PySem.W.Fast.tw15875400356185355488:True:=trivial
theorem PySem.W.Fast.tw445008570511784781:True:=trivial
theorem PySem.W.Fast.tw6090397866802139047:True:=trivial
theorem PySem.W.Fast.tw2990078746162817908:True:=trivial
theorem PySem.W.Fast.tw13223881739149266070:True:=trivial
theorem PySem.W.Fast.tw12899942553190575982:True:=trivial
theorem PySem.W.Fast.tw10549753173478673314:True:=trivial
theorem PySem.W.Fast.tw7157340767685560295:True:=trivial
theorem PySem.W.Fast.tw6839148631239084101:True:=trivial
theorem PySem.W.Fast.tw13956185247868187778:True:=trivial
theorem PySem.W.Fast.tw7203643430965681778:True:=trivial
theorem PySem.W.Fast.tw12513356966212941727:True:=trivial
theorem PySem.W.Fast.tw6060953544367047780:True:=trivial
theorem PySem.W.Fast.tw2703243494332684950:True:=trivial
theorem PySem.W.Fast.tw10006877387971599898:True:=trivial
theorem PySem.W.Fast.tw9764337647608651691:True:=trivial
theorem PySem.W.Fast.tw17568459983465963364:True:=trivial
theorem PySem.W.Fast.tw16780317876250056393:True:=trivial
theorem PySem.W.Fast.tw6962209692942106294:True:=trivial
theorem PySem.W.Fast.tw10650169905099780507:True:=trivial
theorem PySem.W.Fast.tw15541930108980176274:True:=trivial
theorem PySem.W.Fast.tw12482213227364279324:True:=trivial
theorem PySem.W.Fast.tw14690288546559247620:True:=trivial
theorem PySem.W.Fast.tw10607840490091418337:True:=trivial
theorem PySem.W.Fast.tw7082102249901607349:True:=trivial
theorem PySem.W.Fast.tw17810993178297721907:True:=trivial
theorem PySem.W.Fast.tw9528092257418494402:True:=trivial
theorem PySem.W.Fast.tw763591419450825186:True:=trivial
theorem PySem.W.Fast.tw11415363136694781358:True:=trivial
theorem PySem.W.Fast.tw10980296814948725836:True:=trivial
theorem PySem.W.Fast.tw9322445095373957584:True:=trivial
theorem PySem.W.Fast.tw13335017191169899759:True:=trivial
open PySem PySem.W PyProof.Rows
set_option maxRecDepth 100000 in
set_option maxHeartbeats 0 in
theorem PySem.Challenge.cw_ledpast_k11_needed_holds : PySem.Challenge.rw_ledpast_k11_needed.Holds := by
 w_on; o_law; k_head; (case hw => w_witness2)
 k_fill
 refine My.walk (l := PySem.Challenge.rw_ledpast_k11_needed) rfl rfl (fun w h Y => PySem.W.kIn_of Y) ?F
 case F =>
  intro w mg fa h KX G hmg
  refine' My.all_mk KX G hmg ?z_len ?z_zip ?z_tuple ?z_sorted ?z_set ?z_dict ?z_min ?z_max ?z_range ?z_list ?z_int ?z_bool ?z_isinstance ?z_ValueError ?gA ?lA ?xgP ?xgM ?xgN ?xgR ?xgL ?xgO ?xoP ?xaP ?xnP ?xcP ?xbP ?xxP ?xoM ?xaM ?xnM ?xcM ?xbM ?xxM ?xyP ?xsM ?xkM ?xmM ?g_MOST_TO_LEAD ?g_MOST_NEEDED ?gE ?lE ?qE0 ?qE1 ?qE2 ?qE3 ?gD ?lD ?qD0 ?qD1 ?qD2 ?qD3 ?qD4 ?aCC ?pgC ?hdC ?poC ?saC ?mkC ?kcC ?nC_members ?nC_places (L2.def_mk ?a0 ?l0 ?c0 ?k0) (L2.def_mk ?a1 ?l1 ?c1 ?k1) (L2.def_mk ?a2 ?l2 ?c2 ?k2) (L2.def_mk ?a3 ?l3 ?c3 ?k3) (L2.def_mk ?a4 ?l4 ?c4 ?k4) (L2.def_mk ?a5 ?l5 ?c5 ?k5) (L2.def_mk ?a6 ?l6 ?c6 ?k6) (L2.def_mk ?a7 ?l7 ?c7 ?k7) (L2.def_mk ?a8 ?l8 ?c8 ?k8) (L2.def_mk ?a9 ?l9 ?c9 ?k9) (L2.def_mk ?a10 ?l10 ?c10 ?k10) (L2.def_mk ?a11 ?l11 ?c11 ?k11) (L2.def_mk ?a12 ?l12 ?c12 ?k12) (L2.def_mk ?a13 ?l13 ?c13 ?k13) (L2.def_mk ?a14 ?l14 ?c14 ?k14) (L2.def_mk ?a15 ?l15 ?c15 ?k15) (L2.def_mk ?a16 ?l16 ?c16 ?k16) (L2.def_mk ?a17 ?l17 ?c17 ?k17) (L2.def_mk ?a18 ?l18 ?c18 ?k18) (L2.met_mk ?a19 ?i19 ?l19 ?c19 ?k19) (L2.met_mk ?a20 ?i20 ?l20 ?c20 ?k20) (L2.def_mk ?a21 ?l21 ?c21 ?k21) (L2.def_mk ?a22 ?l22 ?c22 ?k22) (L2.def_mk ?a23 ?l23 ?c23 ?k23) (L2.def_mk ?a24 ?l24 ?c24 ?k24) (L2.def_mk ?a25 ?l25 ?c25 ?k25) (L2.def_mk ?a26 ?l26 ?c26 ?k26) (L2.def_mk ?a27 ?l27 ?c27 ?k27) (L2.def_mk ?a28 ?l28 ?c28 ?k28) (L2.def_mk ?a29 ?l29 ?c29 ?k29) (L2.def_mk ?a30 ?l30 ?c30 ?k30) (L2.def_mk ?a31 ?l31 ?c31 ?k31) (L2.def_mk ?a32 ?l32 ?c32 ?k32) (L2.def_mk ?a33 ?l33 ?c33 ?k33) (L2.def_mk ?a34 ?l34 ?c34 ?k34) (L2.def_mk ?a35 ?l35 ?c35 ?k35) (L2.def_mk ?a36 ?l36 ?c36 ?k36) (L2.def_mk ?a37 ?l37 ?c37 ?k37) (L2.def_mk ?a38 ?l38 ?c38 ?k38) (L2.def_mk ?a39 ?l39 ?c39 ?k39) (L2.def_mk ?a40 ?l40 ?c40 ?k40) (L2.def_mk ?a41 ?l41 ?c41 ?k41) (L2.def_mk ?a42 ?l42 ?c42 ?k42) (L2.def_mk ?a43 ?l43 ?c43 ?k43) (L2.def_mk ?a44 ?l44 ?c44 ?k44) (L2.def_mk ?a45 ?l45 ?c45 ?k45) (L2.def_mk ?a46 ?l46 ?c46 ?k46) (L2.def_mk ?a47 ?l47 ?c47 ?k47) (L2.def_mk ?a48 ?l48 ?c48 ?k48) (L2.def_mk ?a49 ?l49 ?c49 ?k49) (L2.def_mk ?a50 ?l50 ?c50 ?k50)
  case gA | lA | xgP | xgM | xgN | xgR | xgL | xgO | xaP | xnP | xcP | xbP | xxP | xaM | xnM | xcM | xbM | xxM | xyP | xsM | g_MOST_TO_LEAD | g_MOST_NEEDED | gE | lE | qE0 | qE1 | qE2 | qE3 | gD | lD | qD0 | qD1 | qD2 | qD3 | qD4 | aCC | pgC | hdC | poC | saC | mkC | kcC | nC_members | nC_places | a0 | l0 | c0 | k0 | a1 | l1 | c1 | k1 | a2 | l2 | c2 | k2 | a3 | l3 | c3 | k3 | a4 | l4 | c4 | k4 | a5 | l5 | c5 | k5 | a6 | l6 | c6 | k6 | a7 | l7 | c7 | k7 | a8 | l8 | c8 | k8 | a9 | l9 | c9 | k9 | a10 | l10 | c10 | k10 | a11 | l11 | c11 | k11 | a12 | l12 | c12 | k12 | a13 | l13 | c13 | k13 | a14 | l14 | c14 | k14 | a15 | l15 | c15 | k15 | a16 | l16 | c16 | k16 | a17 | l17 | c17 | k17 | a18 | l18 | c18 | k18 | a19 | i19 | l19 | c19 | k19 | a20 | i20 | l20 | c20 | k20 | a21 | l21 | c21 | k21 | a22 | l22 | c22 | k22 | a23 | l23 | c23 | k23 | a24 | l24 | c24 | k24 | a25 | l25 | c25 | k25 | a26 | l26 | c26 | k26 | a27 | l27 | c27 | k27 | a28 | l28 | c28 | k28 | a29 | l29 | c29 | k29 | a30 | l30 | c30 | k30 | a31 | l31 | c31 | k31 | a32 | l32 | c32 | k32 | a33 | l33 | c33 | k33 | a34 | l34 | c34 | k34 | a35 | l35 | c35 | k35 | a36 | l36 | c36 | k36 | a37 | l37 | c37 | k37 | a38 | l38 | c38 | k38 | a39 | l39 | c39 | k39 | a40 | l40 | c40 | k40 | a41 | l41 | c41 | k41 | a42 | l42 | c42 | k42 | a43 | l43 | c43 | k43 | a44 | l44 | c44 | k44 | a45 | l45 | c45 | k45 | a46 | l46 | c46 | k46 | a47 | l47 | c47 | k47 | a48 | l48 | c48 | k48 | a49 | l49 | c49 | k49 | a50 | l50 | c50 | k50 | z_len | z_zip | z_tuple | z_sorted | z_set | z_dict | z_min | z_max | z_range | z_list | z_int | z_bool | z_isinstance | z_ValueError => k_is
  case xoP | xoM | xkM | xmM => kernel_rfl
