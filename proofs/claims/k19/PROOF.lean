import PyProof.Rows.All
import Wide.All
import OpenK.AllK
import Wide.FinOn
import Lean
import PyProof.EqAt
import PyProof.EqKinds
import PyProof.TupleCall
import PyProof.NeData
import Wide.Seal
import Wide.OfPy
import KE.KSetDisp
import PySem.Challenge.RW_ledpast_k19_whole_short_tells_the_same
open Or renaming inl→Gf
open List renaming length_map→Gg
open PySem.W renaming Frag→Gh
open Nat renaming le_refl→Gi
open PySem.W renaming keepIn→Gj
open PySem.W renaming fnOf→Gk
open PySem.W renaming codeIn→Gm
open PySem.W renaming nsIn→Gn
open List renaming mem_singleton→Gp
open PySem.Heap renaming lt_size→Gq
open List renaming length_append→Gr
open PySem.Heap renaming get?_push_of_some→Gs
open List renaming mem_cons→Gu
open PySem.W renaming mg_of→Gv
open Nat renaming ne_of_lt→Gw
open PySem.Heap renaming get?_push_size→Gx
open Nat renaming le_trans→Gy
open List renaming map_append→Gz
open List renaming mem_cons_self→GB
open List renaming mem_cons_of_mem→GC
open List renaming size_toArray→GF
open PySem.W renaming findIn→GG
open List renaming mem_map→GH
open List renaming getElem?_map→GI
open List renaming mem_of_getElem?→GJ
open Nat renaming zero_le→GK
open Option renaming some→GL
open List renaming range→GN
open Or renaming inr→GO
open Nat renaming le_succ_of_le→GP
open List renaming getElem?_eq_some_iff→GQ
open Bool renaming false_ne_true→GR
open List renaming map_cons→GS
open PySem.Heap renaming size_push→GU
open Nat renaming lt_of_lt_of_le→GV
open List renaming mem_append→GW
open PySem.Heap renaming SameBut→GX
open Nat renaming lt_irrefl→GY
open List renaming length_cons→GZ
open List renaming mem_append_right→G0
open List renaming take_add_one→G1
open Nat renaming le_of_lt→G3
open Array renaming length_toList→G4
open Bool renaming and_eq_true→G5
open PySem.W renaming isFn→G6
open List renaming take_length→G7
open Nat renaming lt_succ_self→G8
open List renaming length_take→G9
open List renaming append_assoc→Ha
open Nat renaming lt_succ_of_lt→Hb
open List renaming mem_append_left→Hc
open List renaming lookup→Hd
open PySem.W renaming mg_none_of→He
open List renaming getElem?_append_left→Hf
open PySem.W renaming emptyDict→Hg
open Nat renaming le_succ→Hh
open PySem.Heap renaming get?_update_self→Hi
open PySem.Heap renaming get?_update_other→Hj
open Bool renaming false_eq_true→Hk
open List renaming lookup_cons→Hl
open PySem.Around renaming under_plainId→Hm
open PySem.W renaming instObj→Hn
open List renaming mem_range→Ho
open Nat renaming ne_of_gt→Hq
open List renaming nodup_cons→Hr
open Int renaming toNat_natCast→Hs
open Nat renaming succ_le_succ→Ht
open List renaming map_map→Hu
open List renaming nodup_append→Hv
open List renaming getElem?_eq_getElem→Hw
open List renaming length→Hx
open List renaming Pairwise→Hy
open List renaming getElem_mem→Hz
open List renaming forIn_cons→HA
open List renaming nodup_nil→HB
open List renaming idxOf_lt_length_of_mem→HC
open List renaming mem_filter→HD
open PySem.W renaming plainGet→HE
open List renaming append_nil→HF
open List renaming map_nil→HG
open Nat renaming lt_of_le_of_lt→HH
open List renaming foldl_cons→HI
open List renaming find?_cons→HJ
open List renaming map_congr_left→HK
open List renaming length_filter_le→HL
open List renaming getElem?_eq_none→HM
open Int renaming toNat→HN
open List renaming filterMap_cons→HP
open PySem.W renaming hasDictIn→HQ
open List renaming getElem?_append_right→HR
open List renaming length_drop→HS
open List renaming any_cons→HU
open List renaming length_nil→HV
open List renaming not_mem_nil→HW
open Nat renaming le_add_right→HX
open List renaming length_range→HY
open Nat renaming le_of_succ_le→HZ
open List renaming getElem?_range→Ia
open List renaming foldl_append→Ic
open List renaming all_eq_true→Ie
open List renaming idxOf_cons→Ig
open Bool renaming false_and→Ih
open Bool renaming eq_iff_iff→Ii
open PySem.W renaming lookIn→Ij
open PySem.W renaming plainOver→Ik
open PySem.W renaming makesIn→Il
open List renaming of_mem_zip→Im
open List renaming replicate→Io
open List renaming length_replicate→Ip
open List renaming length_set→Iq
open Array renaming getElem?_toList→Ir
open List renaming getD_eq_getElem?_getD→Iu
open Option renaming map_some→Iv
open Nat renaming lt_trans→Iw
open List renaming forIn_nil→Iy
open List renaming filter_append→Iz
open List renaming take_of_length_le→IA
open Nat renaming not_succ_le_self→IB
open Bool renaming true_and→IC
open List renaming pairwise_cons→ID
open List renaming getElem_idxOf→IE
open List renaming idxOf_append→IF
open PySem.W renaming kdsCode→IG
open List renaming filter_cons_of_neg→IH
open List renaming getElem?_of_mem→II
open PySem.W renaming methodObj→IJ
open List renaming mem_filterMap→IK
open PySem.W renaming plainGet_of→IL
open PySem.W renaming callWith_K→IM
open List renaming length_eq_zero_iff→IP
open Bool renaming eq_false_iff→IQ
open List renaming find?_cons_of_pos→IT
open List renaming find?_cons_of_neg→IU
open List renaming min?_eq_some_iff→IV
open List renaming filter_cons_of_pos→IW
open List renaming getElem?_eq_none_iff→IX
open List renaming mem_of_mem_take→IY
open PySem renaming wpAny_bind→IZ
open PySem renaming wpAny_pure→I0
open PySem renaming wpAny_mono→Ja
open PySem renaming wpAny_holding→Jc
open PySem renaming wpAny_call_entry→Jd
open PySem renaming wpAny_newObj_type→Je
open PySem renaming wpAny_field→Jf
open PySem renaming wpAny_seqItems→Jg
open PySem renaming codeAny_builtin→Jh
open PySem renaming wpAny_rule→Ji
open PySem renaming codeAny_mono→Jj
open PySem renaming wpAny_setField→Jk
open PySem renaming wpAny_passesOwn→Jl
open PySem renaming wpAny_typeOf→Jm
open PySem renaming wpAny_attempt→Jn
open PySem renaming wpAny_truthy_bool→Jo
open PySem renaming wpAny_standAt→Jp
open PySem renaming wpAny_setField_rec→Jq
open PySem renaming wpAny_setState_of→Jr
open PySem renaming wpAny_Call_Name_kw→Js
open PySem renaming wpAny_isInstance→Jt
open PySem renaming wpAny_setEntries_of→Ju
open PySem renaming wpAny_alloc→Jv
open PySem renaming wpAny_execs_nil→Jw
open PySem renaming wpAny_pyIter_tuple→Jx
open PySem renaming wpAny_onRaise→Jy
open PySem renaming wpAny_askSetting→Jz
open PySem renaming wpAny_ite_split→JA
open PySem renaming wpAny_fieldsOf→JB
open PySem renaming wpAny_pyHash_str→JC
open PySem renaming wpAny_sequenceKey→JD
open PySem renaming wpAny_updateSeq_pair→JE
open PySem renaming wpAny_setEpoch_of→JF
open PySem renaming wpAny_comprehension_free→JG
set_option maxHeartbeats 8000000
set_option Elab.async false
set_option linter.all false
set_option maxRecDepth 100000
namespace L2
open PySem PySem.Spec PyProof.Rows
abbrev Key:=Sum Int Str
def jf:Key->Value->Bool
 | .inl k,v=>Value.isInt k v
 | .inr x,v=>Value.isStrOf x v
def E6 (w:World):Key->Int
 | .inl k=>hashInt k
 | .inr x=>hashStr w x
theorem cT:∀{k:Key} {v:Value},jf k v=true->(∃i t,k=Sum.inl i/\v=Value.int i t)\/(∃x t,k=Sum.inr x/\v=Value.str x t)
 | .inl i,v,h=>by
  obtain⟨t,e⟩:=Value.isInt_shape (k:=i) (v:=v) h
  exact .inl ⟨i,t,rfl,e⟩
 | .inr x,v,h=>by
  obtain⟨t,e⟩:=Value.isStrOf_shape (x:=x) (v:=v) h
  exact .inr ⟨x,t,rfl,e⟩
theorem yS (i:Int)(t:Tok):jf (.inl i) (.int i t)=true:=by simp [jf,Value.isInt]
theorem yT (x:Str)(t:Tok):jf (.inr x) (.str x t)=true:=by simp [jf,Value.isStrOf]
theorem Dk (a b:Int):decide ((Sum.inl a:Key)=Sum.inl b)=(a == b):=by
 by_cases e:a=b
 ·subst e;simp
 ·have h:¬(Sum.inl a:Key)=Sum.inl b:=fun q=>e (Sum.inl.inj q)
  rw [decide_eq_false h]
  exact (beq_eq_false_iff_ne.mpr e).symm
theorem Dl (a b:Str):decide ((Sum.inr a:Key)=Sum.inr b)=decide (a=b):=by
 by_cases e:a=b
 ·subst e;simp
 ·have h:¬(Sum.inr a:Key)=Sum.inr b:=fun q=>e (Sum.inr.inj q)
  rw [decide_eq_false h,decide_eq_false e]
theorem Dm (a:Int)(b:Str):decide ((Sum.inl a:Key)=Sum.inr b)=false:=decide_eq_false (fun q=>nomatch q)
theorem Dn (a:Str)(b:Int):decide ((Sum.inr a:Key)=Sum.inl b)=false:=decide_eq_false (fun q=>nomatch q)
def aW (prog:Program)(w:World):PySem.KeyKind prog w Key where
 is:=jf
 hash:=E6 w
 inj:=fun v a b ha hb=>by
  rcases cT ha with ⟨i,t,rfl,rfl⟩ | ⟨x,t,rfl,rfl⟩
  ·rcases cT hb with ⟨j,u,rfl,e⟩ | ⟨y,u,rfl,e⟩
   ·injection e with e1 _;rw [e1]
   ·exact nomatch e
  ·rcases cT hb with ⟨j,u,rfl,e⟩ | ⟨y,u,rfl,e⟩
   ·exact nomatch e
   ·injection e with e1 _;rw [e1]
 byValue:=fun k v h=>by
  rcases cT h with ⟨i,t,rfl,rfl⟩ | ⟨x,t,rfl,rfl⟩ <;> rfl
 pyHash:=fun hv h=>by
  rcases cT hv with ⟨i,t,rfl,rfl⟩ | ⟨x,t,rfl,rfl⟩
  ·exact wpAny_pyHash_int h
  ·exact JC h
 eqBool:=fun hu hv h=>by
  rcases cT hu with ⟨i,t,rfl,rfl⟩ | ⟨x,t,rfl,rfl⟩
  ·rcases cT hv with ⟨j,u,rfl,rfl⟩ | ⟨y,u,rfl,rfl⟩
   ·rw [Dk] at h;exact wpAny_eqBool_int h
   ·rw [Dm] at h;exact SeqAt.EqAt.int_str i t y u _ _ _ _ h
  ·rcases cT hv with ⟨j,u,rfl,rfl⟩ | ⟨y,u,rfl,rfl⟩
   ·rw [Dn] at h;exact SeqAt.EqAt.str_int x t j u _ _ _ _ h
   ·rw [Dl] at h;exact wpAny_eqBool_str h
 «strs»:=fun k x t v h=>by
  rcases cT h with ⟨i,u,rfl,e⟩ | ⟨y,u,rfl,e⟩
  ·exact nomatch e
  ·injection e with e1 _
   subst e1
   cases v <;> rfl
theorem oF (prog:Program)(w:World)(i:Int)(t:Tok):(aW prog w).is (.inl i) (.int i t)=true:=yS i t
theorem oG (prog:Program)(w:World)(x:Str)(t:Tok):(aW prog w).is (.inr x) (.str x t)=true:=yT x t
inductive V where
 | bL | bl (b:Bool) | int (i:Int) | str (x:Str) | j6 (b:Array UInt8) | yU (b:UInt64) | ref (a:Addr) | ty (n:String)
 deriving DecidableEq
def RelV:V->Value->Prop
 | .bL,u=>u=Value.none
 | .bl b,u=>u=Value.bool b
 | .int i,u=>∃t,u=Value.int i t
 | .str x,u=>∃t,u=Value.str x t
 | .j6 b,u=>∃t,u=Value.bytes b t
 | .yU b,u=>∃t,u=Value.float b t
 | .ref a,u=>u=Value.ref a
 | .ty n,u=>u=Value.type n
abbrev Vals:List V->List Value->Prop:=Paired RelV
theorem Vals.length {xs:List V}{us:List Value}(r:Vals xs us):xs.length=us.length:=Paired.length r
theorem Vals.get:∀{xs:List V} {us:List Value} {i:Nat} {x:V},Vals xs us->xs[i]?=some x->∃u,us[i]?=some u/\RelV x u
 | _,_,_,_,.nil,e=>by simp at e
 | _,_,0,_,.cons r _,e=>by simp at e;subst e;exact⟨_,rfl,r⟩
 | _,_,i+1,x,.cons _ t,e=>by
  obtain⟨u,h1,h2⟩:=Vals.get (i:=i) (x:=x) t (by simpa using e)
  exact⟨u,by simpa using h1,h2⟩
theorem Vals.set {x:V}{u:Value}(r:RelV x u):∀{xs:List V} {us:List Value} (i:Nat),Vals xs us->Vals (xs.set i x) (us.set i u)
 | _,_,_,.nil=>.nil
 | _,_,0,.cons _ t=>.cons r t
 | _,_,i+1,.cons q t=>.cons q (Vals.set r i t)
theorem Vals.append:∀{xs ys:List V} {us ws:List Value},Vals xs us->Vals ys ws->Vals (xs++ys) (us++ws)
 | _,_,_,_,.nil,s=>s
 | _,_,_,_,.cons r t,s=>.cons r (Vals.append t s)
theorem Vals.take:∀{xs:List V} {us:List Value} (n:Nat),Vals xs us->Vals (xs.take n) (us.take n)
 | _,_,0,_=>.nil
 | _,_,_+1,.nil=>.nil
 | _,_,n+1,.cons r t=>.cons r (Vals.take n t)
theorem Vals.drop:∀{xs:List V} {us:List Value} (n:Nat),Vals xs us->Vals (xs.drop n) (us.drop n)
 | _,_,0,r=>r
 | _,_,_+1,.nil=>.nil
 | _,_,n+1,.cons _ t=>Vals.drop n t
def gB:Option V->Option Value->Prop
 | some v,some u=>RelV v u
 | none,none=>True
 | _,_=>False
def KV {κ : Type}:List (κ×V)->List (κ×Value)->Prop:=Paired fun (p:κ×V) (q:κ×Value)=>p.1=q.1/\RelV p.2 q.2
def kV:Key->V
 | .inl i=>.int i
 | .inr x=>.str x
inductive HO where
 | lst (xs:List V)
 | tup (xs:List V)
 | dK (kvs:List (Key×V)) | dT (kvs:List (List Key×V))
 | set (S:Int->Bool) (n:Nat)
 | ins (C dx:Addr) (fs:List (Str×V))
 | own (x:Addr)
 | xd (fs:List (Str×V))
 | met (f x:Addr)
 | Dp (lo hi:Int)
 | oH (o:Obj) (u:HO)
 | uy (ps:Array Value)
 | ext (φ : Heap->Prop)
abbrev Hp:=Addr->Option HO
def upd (H:Hp)(a:Addr)(o:HO):Hp:=fun b=>if b=a then some o else H b
theorem ae {H:Hp}{a:Addr}{o:HO}:upd H a o a=some o:=by unfold upd;rw [if_pos rfl]
theorem ai {H:Hp}{a b:Addr}{o:HO}(h:b≠a):upd H a o b=H b:=by unfold upd;rw [if_neg h]
theorem Cr {H:Hp}{a:Addr}{o u:HO}:upd (upd H a o) a u=upd H a u:=by
 funext b;unfold upd;split <;> rfl
theorem bB {H:Hp}{a b:Addr}{o u:HO}(h:H a=some o)(h':H b=some u)(d:o≠u):a≠b:=by
 intro e;subst e;rw [h] at h';exact d (GL.inj h')
theorem aw {H:Hp}{a b:Addr}{o:HO}(h:H a=some o)(h':H b=none):a≠b:=by
 intro e;subst e;rw [h] at h';cases h'
section
variable (P:Program)(w:World)
def cA (H:Hp)(h:Heap)(a:Addr):HO->Prop
 | .lst xs=>xs.length<=sizeLine/\∃(its:List Value) (n:Nat),Vals xs its/\h.get? a=some { cls:=.type "list",data:=.seq its.toArray n }
 | .tup xs=>xs.length<=sizeLine/\∃its:List Value,Vals xs its/\∃o,h.get? a=some o/\o.cls=.type "tuple" /\ ∃n,o.data=.seq its.toArray n/\o.dict=none
 | .dK kvs=>kvs.length<=sizeLine/\(a == sysModules)=false/\∃vs,KV kvs vs/\h.DictOf (aW P w) a vs
 | .dT kvs=>kvs.length<=sizeLine/\(a == sysModules)=false/\∃xs:List (List Key×Addr×Value),
   Paired (fun (p:List Key×V) (q:List Key×Addr×Value)=>p.1=q.1/\H q.2.1=some (.tup (p.1.map kV))/\RelV p.2 q.2.2) kvs xs /\
   ∃o es ep,h.get? a=some o/\o.ExactDict/\o.data=.dict es ep/\es.toList=xs.map (entryOfKey (tupleKind (aW P w)))/\(xs.map (·.1)).Nodup
 | .set S n=>h.SetOf (intKind P w) a S n
 | .ins C dx fs=>H dx=some (.own a)/\fs.length<=1000/\dx≠a/\h.get? a=some (Hn C dx) /\
   ∃mA,h.Ns1 dx mA/\(∀f,gB (fs.lookup f) (mA f))/\PySem.Within mA (fs.map (·.1))
 | .own _=>∃o,h.get? a=some o
 | .xd fs=>∃mA,h.Ns1 a mA/\∀f,gB (fs.lookup f) (mA f)
 | .Dp lo hi=>∃t u v,h.get? a=some { cls:=.type "range",data:=.fields #[.int lo t,.int hi u,.int 1 v] }
 | .oH o u=>h.get? a=some o/\cA H h a u
 | .uy ps=>h.get? a=some { cls:=.none,data:=.fields ps }
 | .met f x=>h.get? a=some (IJ (.ref f) (.ref x))
 | .ext φ=>φ h/\(∃o,h.get? a=some o)/\∀h1 h2:Heap,φ h1->(∀o,h1.get? a=some o->h2.get? a=some o)->φ h2
def eG (H:Hp)(h:Heap):Prop:=∀a o,H a=some o->cA P w H h a o
end
section
variable {P:Program}{w:World}{H H':Hp}{h h':Heap}{a:Addr}{o:HO}
theorem cA.lt (x:cA P w H h a o):a<h.objs.size:=by
 cases o with
 | lst xs=>obtain⟨_,_,_,_,e⟩:=x;exact Gq e
 | tup xs=>obtain⟨_,_,_,p⟩:=x;exact (let ⟨o,e,_⟩:=p;Gq e)
 | dK kvs=>obtain⟨_,_,_,_,o,_,_,e,_⟩:=x;exact Gq e
 | dT kvs=>obtain⟨_,_,_,_,o,_,_,e,_⟩:=x;exact Gq e
 | set S n=>obtain⟨o,_,_,_,e,_⟩:=x;exact Gq e
 | ins C dx fs=>obtain⟨_,_,_,e,_⟩:=x;exact Gq e
 | own y=>obtain⟨_,e⟩:=x;exact Gq e
 | xd fs=>obtain⟨_,⟨_,_,_,e,_⟩,_⟩:=x;exact Gq e
 | Dp lo hi=>obtain⟨_,_,_,e⟩:=x;exact Gq e
 | oH ob u=>obtain⟨e,_⟩:=x;exact Gq e
 | uy ps=>exact Gq (show h.get? a=some _ from x)
 | met f y=>exact Gq (show h.get? a=some _ from x)
 | ext φ=>obtain⟨_,⟨_,e⟩,_⟩:=x;exact Gq e
theorem Paired.An {α β : Type}{F G:α->β->Prop}:∀{l₁ : List α} {l₂ : List β},Paired F l₁ l₂->(∀a b,F a b->G a b)->Paired G l₁ l₂
 | _,_,.nil,_=>.nil
 | _,_,.cons r t,f=>.cons (f _ _ r) (Paired.An t f)
theorem cA.rm (x:cA P w H h a o)(k:∀b u,(b=a\/H b=some (.own a))->h.get? b=some u->h'.get? b=some u)
  (ho:∀b,H b=some (.own a)->H' b=some (.own a)) (ht:∀b xs,H b=some (.tup xs)->H' b=some (.tup xs)):cA P w H' h' a o:=by
 induction o with
 | lst xs=>obtain⟨z,its,n,r,e⟩:=x;exact⟨z,its,n,r,k _ _ (.inl rfl) e⟩
 | tup xs=>obtain⟨z,its,r,ob,e,c⟩:=x;exact⟨z,its,r,ob,k _ _ (.inl rfl) e,c⟩
 | dK kvs=>obtain⟨z,y,vs,r,ob,es,ep,e,c⟩:=x;exact⟨z,y,vs,r,ob,es,ep,k _ _ (.inl rfl) e,c⟩
 | dT kvs =>
  obtain⟨z,y,xs,r,ob,es,ep,e,c⟩:=x
  exact⟨z,y,xs,Paired.An r fun p q z=>⟨z.1,ht _ _ z.2.1,z.2.2⟩,ob,es,ep,k _ _ (.inl rfl) e,c⟩
 | set S n=>obtain⟨ob,es,ep,t,e,c⟩:=x;exact⟨ob,es,ep,t,k _ _ (.inl rfl) e,c⟩
 | ins C dx fs =>
  obtain⟨d,z,ne,e,mA,⟨od,es,ep,e2,c⟩,r⟩:=x
  exact⟨ho _ d,z,ne,k _ _ (.inl rfl) e,mA,⟨od,es,ep,k _ _ (.inr d) e2,c⟩,r⟩
 | own y=>obtain⟨ob,e⟩:=x;exact⟨ob,k _ _ (.inl rfl) e⟩
 | xd fs=>obtain⟨mA,⟨od,es,ep,e,c⟩,r⟩:=x;exact⟨mA,⟨od,es,ep,k _ _ (.inl rfl) e,c⟩,r⟩
 | Dp lo hi=>obtain⟨t,u,v,e⟩:=x;exact⟨t,u,v,k _ _ (.inl rfl) e⟩
 | oH ob u ih=>obtain⟨e,q⟩:=x;exact⟨k _ _ (.inl rfl) e,ih q⟩
 | uy ps =>
  have e:h.get? a=some { cls:=.none,data:=.fields ps }:=x
  show h'.get? a=some { cls:=.none,data:=.fields ps }
  exact k a _ (.inl rfl) e
 | met f y =>
  have e:h.get? a=some (IJ (.ref f) (.ref y)):=x
  show h'.get? a=some (IJ (.ref f) (.ref y))
  exact k a _ (.inl rfl) e
 | ext φ=>obtain⟨p,⟨o,e⟩,st⟩:=x;exact⟨st _ _ p fun o q=>k _ _ (.inl rfl) q,⟨o,k _ _ (.inl rfl) e⟩,st⟩
theorem eG.lt (x:eG P w H h)(e:H a=some o):a<h.objs.size:=(x a o e).lt
theorem eG.fresh (x:eG P w H h)(e:h.objs.size<=a):H a=none:=by
 cases q:H a with
 | none=>rfl
 | some u=>exact absurd (GV (x.lt q) e) (GY _)
theorem eG.kept (x:eG P w H h)(k:∀b u,h.get? b=some u->h'.get? b=some u):eG P w H h':=fun a o e =>
 (x a o e).rm (fun b u _ q=>k b u q) (fun _ q=>q) fun _ _ q=>q
theorem eG.laid (x:eG P w H h)(k:∀b u,h.get? b=some u->h'.get? b=some u)(hp:h.objs.size<=a)(new:cA P w (upd H a o) h' a o):eG P w (upd H a o) h':=fun b u e=>by
 have hn:=x.fresh hp
 by_cases hb:b=a
 ·subst hb;rw [ae] at e;cases e;exact new
 ·rw [ai hb] at e
  exact (x b u e).rm (fun c v _ q=>k c v q) (fun c q=>by rw [ai (aw q hn)];exact q) fun c xs q=>by rw [ai (aw q hn)];exact q
end
def Rd (H:Hp)(a:Addr)(u:HO):Prop:=H a=some u\/∃o,H a=some (.oH o u)
theorem Rd.ok {P:Program}{w:World}{H:Hp}{h:Heap}{a:Addr}{u:HO}(r:Rd H a u)(x:eG P w H h):cA P w H h a u:=by
 rcases r with r | ⟨o,r⟩
 ·exact x a u r
 ·obtain⟨_,q⟩:=x a _ r
  exact q
def yV:Option HO->Prop
 | some (.lst _)=>True
 | some (.dK _)=>True
 | some (.dT _)=>True
 | some (.set _ _)=>True
 | some (.ins _ _ _)=>True
 | some (.ext _)=>True
 | _=>False
section
variable {P:Program}{w:World}{H:Hp}{h h':Heap}{x e:Addr}{o':HO}
theorem eG.write (ok:eG P w H h)(mu:yV (H x))(he:e=x\/H e=some (.own x))(k:∀b u,b≠e->h.get? b=some u->h'.get? b=some u)(heo:∃u,h'.get? e=some u)
  (new:cA P w (upd H x o') h' x o'):eG P w (upd H x o') h':=fun b u q=>by
 have nown:∀c y,H c=some (.own y)->c≠x:=fun c y r z=>by subst z;rw [r] at mu;exact mu
 have ntup:∀c xs,H c=some (.tup xs)->c≠x:=fun c xs r z=>by subst z;rw [r] at mu;exact mu
 by_cases hb:b=x
 ·subst hb;rw [ae] at q;cases q;exact new
 ·rw [ai hb] at q
  by_cases hbe:b=e
  ·have q':H b=some (.own x):=by
    rcases he with z | z
    ·exact absurd (hbe.trans z) hb
    ·rw [hbe];exact z
   rw [q] at q';cases q'
   obtain⟨v,hv⟩:=heo
   exact⟨v,by rw [hbe];exact hv⟩
  ·refine (ok b u q).rm (fun c v hc r=>k c v ?_ r) (fun c r=>by rw [ai (nown c b r)];exact r) fun c xs r=>by rw [ai (ntup c xs r)];exact r
   rcases hc with rfl | hc
   ·exact hbe
   ·rintro rfl
    rcases he with z | z
    ·exact nown c b hc z
    ·rw [hc] at z;cases z;exact hb rfl
end
structure Un (fs ex:List Addr) (H H':Hp) (h h':Heap):Prop where
 keep:∀b o,h.get? b=some o->H b=none->b∉fs->b∉ex->h'.get? b=some o
 slot:∀b o,h.get? b=some o->H b=none->b∈fs->b∉ex->∃sl,h'.get? b=some { o with slots:=sl }
 free:∀b o,h.get? b=some o->H b=none->b∉ex->H' b=none
 there:∀b o,h.get? b=some o->b∉ex->∃o',h'.get? b=some o'
 bp:∀b xs,H b=some (.tup xs)->H' b=some (.tup xs)
 lZ:∀b o u,H b=some (.oH o u)->H' b=some (.oH o u)
 mW:∀b ps,H b=some (.uy ps)->∃more,H' b=some (.uy (ps++more))
section
variable {fs fs' ex ex':List Addr}{H H1 H2:Hp}{h h1 h2 h':Heap}{a x e:Addr}{o:HO}
theorem Un.any (u:Un fs ex H H1 h h1){b:Addr}{ob:Obj}(q:h.get? b=some ob)(n:H b=none)(hx:b∉ex):∃sl,h1.get? b=some { ob with slots:=sl }:=by
 by_cases hb:b∈fs
 ·exact u.slot b ob q n hb hx
 ·exact⟨ob.slots,u.keep b ob q n hb hx⟩
theorem Un.kept (k:∀b u,h.get? b=some u->h'.get? b=some u):Un fs ex H H h h' :=
 ⟨fun b ob q _ _ _=>k b ob q,fun b ob q _ _ _=>⟨ob.slots,k b ob q⟩,fun _ _ _ n _=>n,fun b ob q _=>⟨ob,k b ob q⟩,fun _ _ q=>q,fun _ _ _ q=>q,fun _ ps q=>⟨#[],by rw [q];simp⟩⟩
theorem Un.refl:Un fs ex H H h h:=Un.kept fun _ _ q=>q
theorem Un.laid (k:∀b u,h.get? b=some u->h'.get? b=some u)(hp:h.objs.size<=a)(hn:H a=none):Un fs ex H (upd H a o) h h' where
 keep:=fun b u q _ _ _=>k b u q
 slot:=fun b u q _ _ _=>⟨u.slots,k b u q⟩
 free:=fun b u q n _=>by rw [ai (Gw (GV (Gq q) hp))];exact n
 there:=fun b u q _=>⟨u,k b u q⟩
 bp:=fun b xs q=>by rw [ai (aw q hn)];exact q
 lZ:=fun b u xs q=>by rw [ai (aw q hn)];exact q
 mW:=fun b ps q=>⟨#[],by rw [ai (aw q hn),q];simp⟩
theorem Un.write (mu:yV (H x))(he:e=x\/H e=some (.own x))(k:∀b u,b≠e->h.get? b=some u->h'.get? b=some u)(heo:∃u,h'.get? e=some u):Un fs ex H (upd H x o) h h':=by
  have hx:∀b,H b=none->b≠x:=fun b n z=>by subst z;rw [n] at mu;exact mu
  have hb:∀b,H b=none->b≠e:=fun b n z=>by
    subst z
    rcases he with r | r
    . exact hx b n r
    . rw [n] at r;cases r
  have hm:∀b u,H b=some u->¬yV (some u)->b≠x:=fun b u q nm z=>by subst z;rw [q] at mu;exact nm mu
  refine⟨fun b u q n _ _=>k b u (hb b n) q,fun b u q n _ _=>⟨u.slots,k b u (hb b n) q⟩,fun b u q n _=>by rw [ai (hx b n)];exact n,fun b u q _=>?_,
    fun b xs q=>by rw [ai (hm b _ q fun z=>z)];exact q,fun b u xs q=>by rw [ai (hm b _ q fun z=>z)];exact q,fun b ps q=>⟨#[],by rw [ai (hm b _ q fun z=>z),q];simp⟩⟩
  by_cases hbe:b=e
  . subst hbe;exact heo
  . exact⟨u,k b u hbe q⟩
end
def BP (h:Heap)(H:Hp):List Addr:=(GN h.objs.size).filter fun a=>(H a).isSome
def ma (h:Heap)(H:Hp):Heap:=PySem.W.hideAll h (BP h H)
theorem yW (h:Heap)(H:Hp):(ma h H).objs.size=h.objs.size:=PySem.W.hideAll_size _ _
theorem Ao {h:Heap}{H:Hp}{b:Addr}{o:Obj}(e:h.get? b=some o)(n:H b=none):(ma h H).get? b=some o :=
 PySem.W.hideAll_get _ e fun hm=>by
  have q:(H b).isSome=true:=(HD.mp hm).2
  rw [n] at q;simp at q
theorem Cs {h:Heap}{H:Hp}{b:Addr}{o:Obj}(e:(ma h H).get? b=some o):h.get? b=some o/\H b=none:=by
 have e':h.get? b=some o:=PySem.W.of_hideAll (BP h H) e
 refine⟨e',?_⟩
 cases q:H b with
 | none=>rfl
 | some x =>
  have hm:b∈BP h H:=HD.mpr ⟨Ho.mpr (Gq e'),by simp [q]⟩
  have z:(ma h H).get? b=none:=PySem.W.hideAll_none (BP h H) hm
  rw [z] at e;cases e
def Ct (g h:Heap)(L:Addr):List (Addr×Obj):=(GN h.objs.size).filterMap fun a=>if a=L\/(g.get? a).isSome=true then none else (h.get? a).map fun o=>(a,o)
def rest (g h:Heap)(L d:Addr):List (Addr×Obj):=(Ct g h L).filter fun p=>decide (p.1≠d)
structure Mod (K:Gh) (mg:Str->Option Value) (base:Heap):Prop where
 lC:K.In base
 glob:base.Ns mainGlobals mg
 blt:∃mb,base.Ns builtinsNs mb/\∀x:Str,x ≠ "__name__" -> mb x=bootBuiltins x
 nolimit:base.NoLimit
structure Cx where
 prog:Program
 w:World
 K:Gh
 mg:Str->Option Value
 base:Heap
 A:Around
 N:List Str
 eU:Shared
 uz:Hp
 env:Env
 outer:List Env
 stack:List Env
 ex:List Addr
 fn:Str->Bool
 calm:Bool
 pn:List (Addr×Obj)
 xe:Value->Shared->Prop
def mX (l:List Env):List Addr:=l.filterMap (·.frame)
abbrev Cx.fs (X:Cx):List Addr:=mX X.outer
def BQ (sc:Scope)(x:Str):Prop:=sc.names.lookup x=some .local\/sc.names.lookup x=some .cell\/sc.names.lookup x=some .free
def Loc (sc:Scope)(x:Str):Prop:=sc.names.lookup x=some .local\/sc.names.lookup x=some .cell
def Look (env:Env)(h:Heap)(m:Str->Option Value)(x:Str)(u:Value):Prop :=
 (env.kindOf x=some .local/\m x=some u)\/((env.kindOf x=some .cell\/env.kindOf x=some .free)/\∃c,env.cells.lookup x=some c/\h.IsCell c (some u))
structure Cx.Ok (X:Cx):Prop where
 mod:Mod X.K X.mg X.base
 kind:X.env.scope.kind=.function
 glob:X.env.globals=mainGlobals
 blt:X.env.builtins=builtinsNs
 above:X.eU.heap.objs.size<=X.env.locals
 inj:∀x y c,X.env.cells.lookup x=some c->X.env.cells.lookup y=some c->x=y
 has:∀x,(X.env.kindOf x=some .cell\/X.env.kindOf x=some .free)->∃c,X.env.cells.lookup x=some c
 yX:∀x c,X.fn x=true->X.env.cells.lookup x=some c->X.eU.heap.objs.size<=c
 hd:X.calm=true->X.A.handled=none
 frames:X.A.frames=some X.stack
 BR:X.stack=X.outer\/(X.stack=X.env::X.outer/\X.env.frame=some X.env.locals)
 EU:∀b∈X.ex,b≠X.env.locals/\∀x c,X.env.cells.lookup x=some c->c≠b
 bs:∀b o,X.base.get? b=some o->X.eU.heap.get? b=some o/\X.uz b=none
 p8:X.base.objs.size<=X.eU.heap.objs.size
 uA:∀b o,X.base.get? b=some o->b∉X.ex
 xK:∀b∈X.ex,b∉X.fs
 jD:X.eU.heap.FunFrames X.base X.outer
 uB:∀b∈X.fs,X.uz b=none
structure Inv (X:Cx) (pins:List (Addr×Obj)) (Gd : List (Option V)) (H:Hp) (s:Shared):Prop where
 ok:X.Ok
 os:s.os=X.eU.os
 bare:AllBare s.gens
 base:Un X.fs X.ex X.uz H X.eU.heap s.heap
 loc:∃m,s.heap.Ns X.env.locals m/\∀(i:Nat) (x:Str) (v:V),X.N[i]?=some x->Gd[i]?=some (some v)->BQ X.env.scope x->∃u,RelV v u/\Look X.env s.heap m x u
 cell:∀x c,X.env.cells.lookup x=some c->∃v,s.heap.IsCell c v
 free:H X.env.locals=none
 iq:∀x c,X.env.cells.lookup x=some c->H c=none
 pin:∀p∈X.pn++pins,s.heap.get? p.1=some p.2/\H p.1=none/\p.1≠X.env.locals/\p.1∉X.fs/\∀v,p.2.data≠.cell v
 aZ:eG X.prog X.w H s.heap
 len:Gd.length=X.N.length
section
variable {X:Cx}{pins:List (Addr×Obj)}{Gd : List (Option V)}{H H':Hp}{s:Shared}{h':Heap}
theorem Cx.Ok.E7 (ok:X.Ok){b:Addr}{o:Obj}(e:X.base.get? b=some o):b∉X.fs:=fun hb=>by
 have:=(ok.jD.mem hb).1
 rw [e] at this;cases this
theorem Inv.bs (I:Inv X pins Gd H s):∀b o,X.base.get? b=some o->s.heap.get? b=some o/\H b=none:=fun b o e =>
 ⟨I.base.keep b o (I.ok.bs b o e).1 (I.ok.bs b o e).2 (I.ok.E7 e) (I.ok.uA b o e),I.base.free b o (I.ok.bs b o e).1 (I.ok.bs b o e).2 (I.ok.uA b o e)⟩
theorem Inv.bk (I:Inv X pins Gd H s):∀b o,X.base.get? b=some o->s.heap.get? b=some o:=fun b o e=>(I.bs b o e).1
theorem Inv.mod (I:Inv X pins Gd H s):Mod X.K X.mg X.base:=I.ok.mod
theorem Inv.jn (I:Inv X pins Gd H s):X.K.In s.heap:=I.ok.mod.lC.keeps I.bk
theorem Inv.lt (I:Inv X pins Gd H s):X.env.locals<s.heap.objs.size:=let ⟨_,hn,_⟩:=I.loc;hn.lt
theorem Inv.sz (I:Inv X pins Gd H s):X.eU.heap.objs.size<=s.heap.objs.size:=Gy I.ok.above (G3 I.lt)
theorem Inv.E8 (I:Inv X pins Gd H s){a:Addr}(h:s.heap.objs.size<=a):a∉X.fs:=fun hb=>by
 obtain⟨_,o,ho,_⟩:=I.ok.jD.mem hb
 exact absurd (GV (Gq ho) (Gy I.sz h)) (GY _)
theorem Inv.uC (I:Inv X pins Gd H s):∀x c,X.env.cells.lookup x=some c->c≠X.env.locals:=fun x c e z=>by
 obtain⟨v,o,ho,hd⟩:=I.cell x c e
 obtain⟨m,⟨o',es,ep,ho',hd',_⟩,_⟩:=I.loc
 rw [z,ho'] at ho;cases ho;rw [hd'] at hd;cases hd
theorem Inv.jD (I:Inv X pins Gd H s):s.heap.FunFrames X.base X.outer:=by
 have all:∀(l:List Env),(∀b∈mX l,b∈X.fs)->X.eU.heap.FunFrames X.base l->s.heap.FunFrames X.base l:=by
  intro l
  induction l with
  | nil=>intro _ _;trivial
  | cons env r ih =>
   intro hs hl
   obtain⟨hk,⟨L,o,hf,hn,ho,hd⟩,hr⟩:=hl
   have hL:L∈X.fs:=hs L (by unfold mX;rw [HP,hf];exact GB)
   obtain⟨sl,e⟩:=I.base.slot L o ho (I.ok.uB L hL) hL fun z=>I.ok.xK L z hL
   exact⟨hk,⟨L,_,hf,hn,e,hd⟩,ih (fun b hb=>hs b (by unfold mX;rw [HP,hf];exact GC _ hb)) hr⟩
 exact all X.outer (fun _ hb=>hb) I.ok.jD
theorem Inv.stack (I:Inv X pins Gd H s):s.heap.FunFrames X.base X.stack:=by
 rcases I.ok.BR with e | ⟨e,hf⟩
 ·rw [e];exact I.jD
 ·rw [e]
  obtain⟨m,hn,_⟩:=I.loc
  refine .cons (by rw [I.ok.kind];decide) hf hn ?_ I.jD
  exact Heap.get?_none_of_le (Gy I.ok.p8 I.ok.above)
theorem Inv.p9 (I:Inv X pins Gd H s):∀b∈mX X.stack,b∈X.env.locals::X.fs:=fun b hb=>by
 rcases I.ok.BR with e | ⟨e,hf⟩
 ·rw [e] at hb;exact GC _ hb
 ·rw [e] at hb
  unfold mX at hb
  rw [HP,hf] at hb
  exact hb
theorem Inv.wI (I:Inv X pins Gd H s):∀b∈mX X.stack,H b=none:=fun b hb=>by
 rcases Gu.mp (I.p9 b hb) with e | hb
 ·rw [e];exact I.free
 ·obtain⟨_,o,ho,_⟩:=I.ok.jD.mem hb
  exact I.base.free b o ho (I.ok.uB b hb) fun z=>I.ok.xK b z hb
theorem Inv.step {g':Array GenState}{t':Nat}{d':Drawn}{ch:List Addr}(I:Inv X pins Gd H s)
  (hch:∀b∈ch,(b∈X.ex\/X.eU.heap.objs.size<=b)/\b≠X.env.locals/\(∀x c,X.env.cells.lookup x=some c->c≠b)/\∀p∈X.pn++pins,p.1≠b)
  (keep:∀b o,b≠X.env.locals->b∉X.fs->b∉ch->s.heap.get? b=some o->H b=none->h'.get? b=some o)
  (slot:∀b o,b≠X.env.locals->b∈X.fs->b∉ch->s.heap.get? b=some o->H b=none->∃sl,h'.get? b=some { o with slots:=sl }) (free:∀b o,b∉ch->s.heap.get? b=some o->H b=none->H' b=none)
  (there:∀b o,b∉ch->s.heap.get? b=some o->∃o',h'.get? b=some o')
  (bp:∀b xs,H b=some (.tup xs)->H' b=some (.tup xs)) (lZ:∀b o u,H b=some (.oH o u)->H' b=some (.oH o u)) (mW:∀b ps,H b=some (.uy ps)->∃more,H' b=some (.uy (ps++more)))
  (ns:∀m,s.heap.Ns X.env.locals m->h'.Ns X.env.locals m) (aZ:eG X.prog X.w H' h') (hg:AllBare g') :
  Inv X pins Gd H' { s with heap:=h',gens:=g',drawn:=d',toks:=t' }:=by
 have neL:∀b o,X.eU.heap.get? b=some o->b≠X.env.locals:=fun b o e=>Gw (GV (Gq e) I.ok.above)
 have neC:∀b o,X.eU.heap.get? b=some o->b∉X.ex->b∉ch:=fun b o e hx hb=>by
  rcases (hch b hb).1 with z | z
  ·exact hx z
  ·exact absurd (GV (Gq e) z) (GY _)
 have cellK:∀x c,X.env.cells.lookup x=some c->∀v,s.heap.IsCell c v->h'.IsCell c v:=fun x c e v ⟨o,ho,hd⟩=>by
  have nch:c∉ch:=fun z=>(hch c z).2.2.1 x c e rfl
  by_cases hc:c∈X.fs
  ·obtain⟨sl,q⟩:=slot c o (I.uC x c e) hc nch ho (I.iq x c e)
   exact⟨_,q,hd⟩
  ·exact⟨o,keep c o (I.uC x c e) hc nch ho (I.iq x c e),hd⟩
 refine⟨I.ok,I.os,hg,⟨fun b o e n hb hx=>?_,fun b o e n hb hx=>?_,fun b o e n hx=>?_,fun b o e hx=>?_,fun b xs e=>bp b xs (I.base.bp b xs e),fun b o xs e=>lZ b o xs (I.base.lZ b o xs e),fun b ps e=>?_⟩,?_,fun x c e=>?_,?_,fun x c e=>?_,fun p hp=>?_,aZ,I.len⟩
 ·exact keep b o (neL b o e) hb (neC b o e hx) (I.base.keep b o e n hb hx) (I.base.free b o e n hx)
 ·obtain⟨sl,e1⟩:=I.base.slot b o e n hb hx
  obtain⟨sl',e2⟩:=slot b _ (neL b o e) hb (neC b o e hx) e1 (I.base.free b o e n hx)
  exact⟨sl',e2⟩
 ·obtain⟨o',e1⟩:=I.base.there b o e hx
  exact free b o' (neC b o e hx) e1 (I.base.free b o e n hx)
 ·obtain⟨o',e1⟩:=I.base.there b o e hx
  exact there b o' (neC b o e hx) e1
 ·obtain⟨m1,e1⟩:=I.base.mW b ps e
  obtain⟨m2,e2⟩:=mW b _ e1
  exact⟨m1++m2,by rw [e2,Array.append_assoc]⟩
 ·obtain⟨m,hn,hl⟩:=I.loc
  refine⟨m,ns m hn,fun i x v e1 e2 e3=>?_⟩
  obtain⟨u,r,l⟩:=hl i x v e1 e2 e3
  refine⟨u,r,?_⟩
  rcases l with l | ⟨k,c,e,z⟩
  ·exact .inl l
  ·exact .inr ⟨k,c,e,cellK x c e _ z⟩
 ·obtain⟨v,z⟩:=I.cell x c e
  exact⟨v,cellK x c e v z⟩
 ·obtain⟨m,⟨o,_,_,ho,_⟩,_⟩:=I.loc
  exact free _ o (fun z=>(hch _ z).2.1 rfl) ho I.free
 ·obtain⟨v,o,ho,hd⟩:=I.cell x c e
  exact free c o (fun z=>(hch c z).2.2.1 x c e rfl) ho (I.iq x c e)
 ·obtain⟨e,n,ne,nf,d⟩:=I.pin p hp
  have nch:p.1∉ch:=fun z=>(hch p.1 z).2.2.2 p hp rfl
  exact⟨keep p.1 p.2 ne nf nch e n,free p.1 p.2 nch e n,ne,nf,d⟩
theorem Inv.un {t':Nat}(I:Inv X pins Gd H s)(u:Un X.fs [] H H' s.heap h')(aZ:eG X.prog X.w H' h'):Inv X pins Gd H' { s with heap:=h',toks:=t' }:=by
  obtain⟨m,⟨o,es,ep,ho,r⟩,_⟩:=id I.loc
  obtain⟨sl,hL⟩:=u.any ho I.free (by simp)
  exact I.step (g':=s.gens) (d':=s.drawn) (ch:=[]) (fun _ z=>nomatch z) (fun b o _ hb _ e n=>u.keep b o e n hb (by simp)) (fun b o _ hb _ e n=>u.slot b o e n hb (by simp)) (fun b o _ e n=>u.free b o e n (by simp)) (fun b o _ e=>u.there b o e (by simp)) u.bp u.lZ u.mW (fun m' hm=>by
    obtain⟨o',es',ep',ho',r'⟩:=hm
    rw [ho] at ho';cases ho'
    exact⟨_,es',ep',hL,r'⟩) aZ I.bare
theorem Inv.call {g':Array GenState}{t':Nat}{d':Drawn}{ch:List Addr}(I:Inv X pins Gd H s)(u:Un (mX X.stack) ch H H' s.heap h')(aZ:eG X.prog X.w H' h')(hg:AllBare g')
  (hch:∀b∈ch,(b∈X.ex\/X.eU.heap.objs.size<=b)/\b≠X.env.locals/\(∀x c,X.env.cells.lookup x=some c->c≠b)/\∀p∈X.pn++pins,p.1≠b) :
  Inv X pins Gd H' { s with heap:=h',gens:=g',drawn:=d',toks:=t' }:=by
 obtain⟨m,⟨o,es,ep,ho,r⟩,_⟩:=id I.loc
 obtain⟨sl,hL⟩:=u.any ho I.free fun z=>(hch _ z).2.1 rfl
 exact I.step (ch:=ch) hch (fun b o hL hb hc e n=>u.keep b o e n (fun z=>(Gu.mp (I.p9 b z)).elim hL hb) hc) (fun b o _ _ hc e n=>u.any e n hc) (fun b o hc e n=>u.free b o e n hc) (fun b o hc e=>u.there b o e hc) u.bp u.lZ u.mW (fun m' hm=>by
  obtain⟨o',es',ep',ho',r'⟩:=hm
  rw [ho] at ho';cases ho'
  exact⟨_,es',ep',hL,r'⟩) aZ hg
theorem Inv.turned {t':Nat}{it:Addr}(I:Inv X pins Gd H s)(k:∀b o,b≠it->s.heap.get? b=some o->h'.get? b=some o)(hn:H it=none)(hL:it≠X.env.locals)
  (h1:it∈X.ex\/X.eU.heap.objs.size<=it) (h2:∀x c,X.env.cells.lookup x=some c->c≠it) (h3:∀p∈X.pn++pins,p.1≠it):Inv X pins Gd H { s with heap:=h',toks:=t' }:=by
 have nit:∀b u,H b=some u->b≠it:=fun b u e z=>by rw [z,hn] at e;cases e
 refine I.step (g':=s.gens) (d':=s.drawn) (ch:=[it]) (fun b hb=>?_) (fun b o _ _ hc e _=>k b o (fun z=>hc (by simp [z])) e) (fun b o _ _ hc e _=>⟨o.slots,k b o (fun z=>hc (by simp [z])) e⟩) (fun _ _ _ _ n=>n)
  (fun b o hc e=>⟨o,k b o (fun z=>hc (by simp [z])) e⟩) (fun _ _ e=>e) (fun _ _ _ e=>e) (fun b ps e=>⟨#[],by rw [e];simp⟩) (fun m hm=>?_) (fun b u e=>?_) I.bare
 ·have e:b=it:=by simpa using hb
  subst e
  exact⟨h1,hL,h2,h3⟩
 ·obtain⟨o,es,ep,ho,r⟩:=hm
  exact⟨o,es,ep,k _ o (Ne.symm hL) ho,r⟩
 ·refine (I.aZ b u e).rm (fun c v hc q=>k c v ?_ q) (fun _ q=>q) fun _ _ q=>q
  rcases hc with z | z
  ·rw [z];exact nit b u e
  ·exact nit c _ z
theorem Inv.tok (I:Inv X pins Gd H s)(t:Nat):Inv X pins Gd H { s with toks:=t }:=I.un (h':=s.heap) (t':=t) Un.refl I.aZ
theorem Inv.kept {t':Nat}(I:Inv X pins Gd H s)(k:∀b u,s.heap.get? b=some u->h'.get? b=some u):Inv X pins Gd H { s with heap:=h',toks:=t' }:=I.un (Un.kept k) (I.aZ.kept k)
theorem Inv.laid {a:Addr}{o:HO}{t':Nat}(I:Inv X pins Gd H s)(k:∀b u,s.heap.get? b=some u->h'.get? b=some u)(hp:s.heap.objs.size<=a)(new:cA X.prog X.w (upd H a o) h' a o) :
  Inv X pins Gd (upd H a o) { s with heap:=h',toks:=t' }:=I.un (Un.laid k hp (I.aZ.fresh hp)) (I.aZ.laid k hp new)
theorem Inv.write {x e:Addr}{o:HO}{t':Nat}(I:Inv X pins Gd H s)(mu:yV (H x))(he:e=x\/H e=some (.own x))(k:∀b u,b≠e->s.heap.get? b=some u->h'.get? b=some u)(heo:∃u,h'.get? e=some u)
  (new:cA X.prog X.w (upd H x o) h' x o):Inv X pins Gd (upd H x o) { s with heap:=h',toks:=t' }:=I.un (Un.write mu he k heo) (I.aZ.write mu he k heo new)
theorem Inv.wJ {pins':List (Addr×Obj)}(I:Inv X pins Gd H s)(h:∀p∈pins',s.heap.get? p.1=some p.2/\H p.1=none/\p.1≠X.env.locals/\p.1∉X.fs/\∀v,p.2.data≠.cell v):Inv X pins' Gd H s :=
 ⟨I.ok,I.os,I.bare,I.base,I.loc,I.cell,I.free,I.iq,fun p hp=>(GW.mp hp).elim (fun z=>I.pin p (Hc _ z)) (h p),I.aZ,I.len⟩
theorem uD {N:List Str}(hN:N.Nodup){i j:Nat}{x:Str}(a:N[i]?=some x)(b:N[j]?=some x):i=j:=by
 obtain⟨h1,e1⟩:=GQ.mp a
 obtain⟨h2,e2⟩:=GQ.mp b
 exact (List.getElem_inj hN).mp (e1.trans e2.symm)
theorem sO {M:Model}{A:Around}{E:Value->Shared->Prop}{i:Nat}{x:Str}{v:V}{u:Value}{Q:Unit->Shared->Prop}(I:Inv X pins Gd H s)(hN:X.N.Nodup)(hi:X.N[i]?=some x)(hx:Loc X.env.scope x)(r:RelV v u)
  (h:∀s',Inv X pins (Gd.set i (some v)) H s'->(∃a,GX a s.heap s'.heap/\(a=X.env.locals\/X.env.cells.lookup x=some a))->Q () s') (hf:X.fn x=true\/X.env.scope.names.lookup x=some .local:=by first | exact .inl rfl | exact .inr rfl | assumption):wpAny M A (storeName X.env x u) Q E s:=by
 obtain⟨m,hn,hl⟩:=id I.loc
 have hcls:(X.env.scope.kind == .class||(X.env.scope.kind == .module&&X.env.locals != X.env.globals))=false:=by rw [I.ok.kind];rfl
 have hiσ : i<Gd.length:=by rw [I.len];exact (GQ.mp hi).1
 have uC:=I.uC
 have tracked:∀{a:Addr} {h':Heap},(∃o,s.heap.get? a=some o/\H a=none)->GX a s.heap h'->eG X.prog X.w H h':=fun {a h'} ha hs b ob e=>by
  obtain⟨_,_,hfree⟩:=ha
  refine (I.aZ b ob e).rm (fun c w' hc q=>(hs.2 c ?_).trans q) (fun _ q=>q) fun _ _ q=>q
  rintro rfl
  rcases hc with rfl | hc
  ·rw [hfree] at e;cases e
  ·rw [hfree] at hc;cases hc
 rcases hx with hk | hk
 ·refine wpAny_storeName_local hk hn (fun h' hn' hs=>?_) hcls
  obtain⟨oL,_,_,hoL,_⟩:=id hn
  refine h _ ⟨I.ok,I.os,I.bare,⟨fun b o e n hb hx=>?_,fun b o e n hb hx=>?_,I.base.free,fun b o e hx=>?_,I.base.bp,I.base.lZ,I.base.mW⟩,⟨_,hn',fun j y v' e1 e2 e3=>?_⟩,fun y c e=>?_,I.free,I.iq,fun p hp=>?_,tracked ⟨oL,hoL,I.free⟩ hs,by simpa using I.len⟩ ⟨_,hs,.inl rfl⟩
  ·exact (hs.2 b (Gw (GV (Gq e) I.ok.above))).trans (I.base.keep b o e n hb hx)
  ·obtain⟨sl,e1⟩:=I.base.slot b o e n hb hx
   exact⟨sl,(hs.2 b (Gw (GV (Gq e) I.ok.above))).trans e1⟩
  ·obtain⟨o',e1⟩:=I.base.there b o e hx
   exact⟨o',(hs.2 b (Gw (GV (Gq e) I.ok.above))).trans e1⟩
  ·by_cases hj:j=i
   ·subst hj
    rw [hi] at e1;cases e1
    rw [List.getElem?_set_self hiσ] at e2
    cases e2
    exact⟨u,r,.inl ⟨hk,by simp⟩⟩
   ·rw [List.getElem?_set_ne (Ne.symm hj)] at e2
    obtain⟨u',r',q⟩:=hl j y v' e1 e2 e3
    refine⟨u',r',?_⟩
    rcases q with ⟨k,e⟩ | ⟨k,c,e,z⟩
    ·refine .inl ⟨k,?_⟩
     have:y≠x:=fun e=>hj (uD hN e1 (e ▸ hi))
     simp [this,e]
    ·exact .inr ⟨k,c,e,z.sameBut hs (uC y c e)⟩
  ·obtain⟨w',z⟩:=I.cell y c e
   exact⟨w',z.sameBut hs (uC y c e)⟩
  ·obtain⟨e,n,ne,nf,d⟩:=I.pin p hp
   exact⟨(hs.2 p.1 ne).trans e,n,ne,nf,d⟩
 ·have hfn:X.fn x=true:=by
   rcases hf with z | z
   ·exact z
   ·rw [z] at hk;cases hk
  obtain⟨c,hc⟩:=I.ok.has x (.inl hk)
  obtain⟨w',z⟩:=I.cell x c hc
  refine wpAny_storeName_cell I.ok.kind hk hc z (fun h' hc' hs=>?_)
  obtain⟨oc,hoc,hocd⟩:=id z
  refine h { s with heap:=h' } ⟨I.ok,I.os,I.bare,⟨fun b o e n hb hx=>?_,fun b o e n hb hx=>?_,I.base.free,fun b o e hx=>?_,I.base.bp,I.base.lZ,I.base.mW⟩,⟨m,hn.sameBut hs (Ne.symm (uC x c hc)),fun j y v' e1 e2 e3=>?_⟩,fun y c' e=>?_,I.free,I.iq,fun p hp=>?_,tracked ⟨oc,hoc,I.iq x c hc⟩ hs,by simpa using I.len⟩ ⟨c,hs,.inr hc⟩
  ·exact (hs.2 b (Gw (GV (Gq e) (I.ok.yX x c hfn hc)))).trans (I.base.keep b o e n hb hx)
  ·obtain⟨sl,e1⟩:=I.base.slot b o e n hb hx
   exact⟨sl,(hs.2 b (Gw (GV (Gq e) (I.ok.yX x c hfn hc)))).trans e1⟩
  ·obtain⟨o',e1⟩:=I.base.there b o e hx
   exact⟨o',(hs.2 b (Gw (GV (Gq e) (I.ok.yX x c hfn hc)))).trans e1⟩
  ·by_cases hj:j=i
   ·subst hj
    rw [hi] at e1;cases e1
    rw [List.getElem?_set_self hiσ] at e2
    cases e2
    exact⟨u,r,.inr ⟨.inl hk,c,hc,hc'⟩⟩
   ·rw [List.getElem?_set_ne (Ne.symm hj)] at e2
    obtain⟨u',r',q⟩:=hl j y v' e1 e2 e3
    refine⟨u',r',?_⟩
    rcases q with q | ⟨k,c',e,z'⟩
    ·exact .inl q
    ·refine .inr ⟨k,c',e,z'.sameBut hs ?_⟩
     rintro rfl
     exact hj (uD hN e1 (I.ok.inj _ _ _ e hc ▸ hi))
  ·by_cases hcc:c' = c
   ·subst hcc;exact⟨_,hc'⟩
   ·obtain⟨w2,z2⟩:=I.cell y c' e
    exact⟨w2,z2.sameBut hs hcc⟩
  ·obtain⟨e,n,ne,nf,d⟩:=I.pin p hp
   refine⟨(hs.2 p.1 ?_).trans e,n,ne,nf,d⟩
   intro q
   rw [q,hoc] at e
   have q':oc=p.2:=GL.inj e
   exact d w' (by rw [<-q'];exact hocd)
theorem j7 {M:Model}{A:Around}{E:Value->Shared->Prop}{i:Nat}{x:Str}{v:V}{u:Value}{Q:Unit->Shared->Prop}(I:Inv X pins Gd H s)(hN:X.N.Nodup)(hi:X.N[i]?=some x)(hx:Loc X.env.scope x)(r:RelV v u)
  (h:∀s',Inv X pins (Gd.set i (some v)) H s'->Q () s') (hf:X.fn x=true\/X.env.scope.names.lookup x=some .local:=by first | exact .inl rfl | exact .inr rfl | assumption):wpAny M A (storeName X.env x u) Q E s :=
 sO I hN hi hx r (fun s' I' _=>h s' I') hf
theorem Inv.Er {s':Shared}{ch:List Addr}(I:Inv X pins Gd H s)(ho:s'.os=s.os)(u:Un (mX X.stack) ch H H' s.heap s'.heap)(aZ:eG X.prog X.w H' s'.heap)(hg:AllBare s'.gens)
  (hch:∀b∈ch,(b∈X.ex\/X.eU.heap.objs.size<=b)/\b≠X.env.locals/\(∀x c,X.env.cells.lookup x=some c->c≠b)/\∀p∈X.pn++pins,p.1≠b):Inv X pins Gd H' s':=by
 obtain⟨h',g',d',t',o'⟩:=s'
 have e:o' = s.os:=ho
 subst e
 exact I.call (g':=g') (t':=t') (d':=d') u aZ hg hch
end
abbrev XK:=Value->Option Addr->Hp->Prop
abbrev St:=List (Option V)
abbrev VK:=V->Hp->Prop
abbrev TE:=St->Hp->VK->Prop
abbrev TT:=St->Hp->(Bool->Hp->Prop)->Prop
abbrev TA:=St->Hp->(List V->Hp->Prop)->Prop
structure Ends where
 nx:St->Hp->Prop
 rt:VK
 bk:St->Hp->Prop:=fun _ _=>False
 ct:St->Hp->Prop:=fun _ _=>False
abbrev TS:=Ends->St->Hp->Prop
def EP (X:Cx)(pins:List (Addr×Obj))(Gd : St)(Q:VK)(u:Value)(s':Shared):Prop:=∃v H',Inv X pins Gd H' s'/\RelV v u/\Q v H'
def TP (X:Cx)(pins:List (Addr×Obj))(Gd : St)(Q:Bool->Hp->Prop)(b:Bool)(s':Shared):Prop:=∃H',Inv X pins Gd H' s'/\Q b H'
def AP (X:Cx)(pins:List (Addr×Obj))(Gd : St)(Q:List V->Hp->Prop)(us:List Value)(s':Shared):Prop:=∃vs H',Inv X pins Gd H' s'/\Vals vs us/\Q vs H'
def SP (X:Cx)(pins:List (Addr×Obj))(D:Ends)(f:Flow)(s':Shared):Prop :=
 match f with
 | .next=>∃σ' H',Inv X pins σ' H' s'/\D.nx σ' H'
 | .brk=>∃σ' H',Inv X pins σ' H' s'/\D.bk σ' H'
 | .cont=>∃σ' H',Inv X pins σ' H' s'/\D.ct σ' H'
 | .ret u=>∃v σ' H',Inv X pins σ' H' s'/\RelV v u/\D.rt v H'
def PE (X:Cx)(e:Expr)(t:TE):Prop :=
 ∀(pins:List (Addr×Obj)) (s:Shared) (Gd : St) (H:Hp) (Q:VK),Inv X pins Gd H s->t Gd H Q->wpAny (model X.prog X.w) X.A (eval e X.env) (EP X pins Gd Q) X.xe s
def PT (X:Cx)(e:Expr)(t:TT):Prop :=
 ∀(pins:List (Addr×Obj)) (s:Shared) (Gd : St) (H:Hp) (Q:Bool->Hp->Prop),Inv X pins Gd H s->t Gd H Q->wpAny (model X.prog X.w) X.A (isTrue e X.env (eval e X.env)) (TP X pins Gd Q) X.xe s
def PW (X:Cx)(e:Expr)(t:TT):Prop :=
 ∀(whole:Sem Value) (pins:List (Addr×Obj)) (s:Shared) (Gd : St) (H:Hp) (Q:Bool->Hp->Prop),Inv X pins Gd H s->t Gd H Q->wpAny (model X.prog X.w) X.A (isTrue e X.env whole) (TP X pins Gd Q) X.xe s
theorem PW.pt {X:Cx}{e:Expr}{t:TT}(h:PW X e t):PT X e t:=h _
def PA (X:Cx)(es:List Expr)(t:TA):Prop :=
 ∀(pos:Pos) (pins:List (Addr×Obj)) (s:Shared) (Gd : St) (H:Hp) (Q:List V->Hp->Prop),Inv X pins Gd H s->t Gd H Q->wpAny (model X.prog X.w) X.A (spliced (backTo pos (starEach es X.env))) (AP X pins Gd Q) X.xe s
def PS (X:Cx)(st:Stmt)(t:TS):Prop :=
 ∀(pins:List (Addr×Obj)) (s:Shared) (Gd : St) (H:Hp) (D:Ends),Inv X pins Gd H s->t D Gd H->wpAny (model X.prog X.w) X.A (exec st X.env) (SP X pins D) X.xe s
def kJ (X:Cx)(st:List Stmt)(t:TS):Prop :=
 ∀(pins:List (Addr×Obj)) (s:Shared) (Gd : St) (H:Hp) (D:Ends),Inv X pins Gd H s->t D Gd H->wpAny (model X.prog X.w) X.A (execs st X.env) (SP X pins D) X.xe s
theorem bo {α : Type}{t:Sem α}{Q Q':α->Shared->Prop}{M:Model}{A:Around}{E:Value->Shared->Prop}{s:Shared}(h:wpAny M A t Q E s)(hQ:∀a s,Q a s->Q' a s):wpAny M A t Q' E s:=Ja h hQ fun _ _ x=>x
section
variable {X:Cx}
def Dq (i:Nat):TE:=fun Gd H Q=>∃v,Gd[i]?=some (some v)/\Q v H
def tC (v:V):TE:=fun _ H Q=>Q v H
theorem Dr {i:Nat} {x:Str} {pos:Pos} (hN:X.N[i]?=some x) (hv:BQ X.env.scope x) (hd:(x == ("__debug__" : Str))=false:=by decide) (hcd:(x == ("__classdict__" : Str))=false:=by decide):PE X (.Name x pos) (Dq i):=by
 intro pins s Gd H Q I h
 obtain⟨v,e,h⟩:=h
 obtain⟨m,hn,hl⟩:=I.loc
 obtain⟨u,r,l⟩:=hl i x v hN e hv
 have fin:EP X pins Gd Q u s:=⟨v,H,I,r,h⟩
 rcases l with ⟨hk,hm⟩ | ⟨hk,c,hc,hcell⟩
 ·exact wpAny_Name (wpAny_loadName_local I.ok.kind hk hn hm fin) hd
 ·rcases hk with hk | hk
  ·exact wpAny_Name (wpAny_loadName_cell I.ok.kind hk hc hcell fin) hd
  ·exact wpAny_Name (wpAny_loadName_free I.ok.kind hk hc hcell fin hcd) hd
theorem ao {i j pos}:PE X (.Constant (.int i) j pos) (tC (.int i)):=fun _ _ _ H _ I h=>wpAny_Constant_int ⟨.int i,H,I.tok _,⟨_,rfl⟩,h⟩
theorem iK {b j pos}:PE X (.Constant (.bool b) j pos) (tC (.bl b)):=fun _ _ _ H _ I h=>Constant_bool ⟨.bl b,H,I,rfl,h⟩
theorem j8 {j pos}:PE X (.Constant .none j pos) (tC .bL):=fun _ _ _ H _ I h=>Constant_none ⟨.bL,H,I,rfl,h⟩
theorem bc {x j pos}:PE X (.Constant (.str x) j pos) (tC (.str x)):=fun _ _ _ H _ I h=>Calls.Constant_str ⟨.str x,H,I.tok _,⟨_,rfl⟩,h⟩
def Gl (X:Cx)(x:Str):Prop:=X.env.kindOf x=some .globalImplicit
theorem rn {E:Value->Shared->Prop}{pins:List (Addr×Obj)}{s:Shared}{Gd : St}{H:Hp}{x:Str}{u:Value}{pos:Pos}{Q:Value->Shared->Prop}(I:Inv X pins Gd H s)(hg:Gl X x)(hm:X.mg x=some u)(h:Q u s)
  (hd:(x == ("__debug__" : Str))=false:=by decide):wpAny (model X.prog X.w) X.A (eval (.Name x pos) X.env) Q E s :=
 Calls.Name_function_global I.ok.kind hg (Calls.loadGlobal_global (by rw [I.ok.glob];exact I.mod.glob.keeps I.bk) hm h) hd
theorem mY {E:Value->Shared->Prop}{pins:List (Addr×Obj)}{s:Shared}{Gd : St}{H:Hp}{x:Str}{u:Value}{pos:Pos}{Q:Value->Shared->Prop}(I:Inv X pins Gd H s)(hg:Gl X x)(hm:X.mg x=none)(hv:bootBuiltins x=some u)(h:Q u s)
  (hn:x ≠ "__name__" := by decide) (hd:(x == ("__debug__" : Str))=false:=by decide):wpAny (model X.prog X.w) X.A (eval (.Name x pos) X.env) Q E s:=by
 obtain⟨mb,h1,h2⟩:=I.mod.blt
 exact Calls.Name_function_global I.ok.kind hg (Calls.loadGlobal_builtin (by rw [I.ok.glob];exact I.mod.glob.keeps I.bk) hm (by rw [I.ok.blt];exact h1.keeps I.bk) ((h2 x hn).trans hv) h) hd
theorem iA {x:Str} {v:V} {u:Value} {pos:Pos} (hg:Gl X x) (hm:X.mg x=some u) (r:RelV v u) (hd:(x == ("__debug__" : Str))=false:=by decide):PE X (.Name x pos) (tC v) :=
 fun _ _ _ H _ I h=>rn I hg hm ⟨v,H,I,r,h⟩ hd
variable {a b:Expr}{ta tb:TE}{pos:Pos}
def PC (X:Cx)(op:CmpOp)(a b:Expr)(t:TE):Prop :=
 ∀(pins:List (Addr×Obj)) (s:Shared) (Gd : St) (H:Hp) (Q:VK),Inv X pins Gd H s->t Gd H Q ->
  wpAny (model X.prog X.w) X.A (eval a X.env) (fun v s₁=>wpAny (model X.prog X.w) X.A (eval b X.env) (fun u s₂=>wpAny (model X.prog X.w) X.A (compareOp op v u) (EP X pins Gd Q) X.xe s₂) X.xe s₁) X.xe s
theorem uE (b:Expr){op:CmpOp}(h:op≠.In)(h2:op≠.NotIn):behindInMarks op b=false:=by
 have e1:(op == CmpOp.In)=false:=by cases op <;> first | rfl | exact absurd rfl h
 have e2:(op == CmpOp.NotIn)=false:=by cases op <;> first | rfl | exact absurd rfl h2
 cases b <;> simp [behindInMarks,e1,e2]
def E9 (ta:TE):TE:=fun Gd H Q=>ta Gd H fun x H1=>Q (.bl (decide (x=.bL))) H1
def Es (ta:TE):TE:=fun Gd H Q=>ta Gd H fun x H1=>Q (.bl (!decide (x=.bL))) H1
theorem RelV.uF {x:V}{v:Value}(r:RelV x v):(v == Value.none)=decide (x=.bL):=by
 cases x with
 | bL=>cases r;rfl
 | bl _=>cases r;rfl
 | int _=>obtain⟨t,rfl⟩:=r;rfl
 | str _=>obtain⟨t,rfl⟩:=r;rfl
 | j6 _=>obtain⟨t,rfl⟩:=r;rfl
 | yU _=>obtain⟨t,rfl⟩:=r;rfl
 | ref _=>cases r;rfl
 | ty _=>cases r;rfl
theorem iL {j pos'}(ha:PE X a ta):PC X .Is a (.Constant .none j pos') (E9 ta):=by
 intro pins s Gd H Q I h
 refine bo (ha pins s Gd H _ I h) fun v s1 ⟨x,H1,I1,r1,q1⟩=>?_
 exact Constant_none (is_none_gen ⟨.bl _,H1,I1,by rw [r1.uF];rfl,q1⟩)
theorem rp {j pos'}(ha:PE X a ta):PC X .IsNot a (.Constant .none j pos') (Es ta):=by
 intro pins s Gd H Q I h
 refine bo (ha pins s Gd H _ I h) fun v s1 ⟨x,H1,I1,r1,q1⟩=>?_
 exact Constant_none (isnot_none_gen ⟨.bl _,H1,I1,by rw [r1.uF];rfl,q1⟩)
def tB (t:TE):TT:=fun Gd H Q=>t Gd H fun x H1=>∃c,x=.bl c/\Q c H1
theorem yY {op:CmpOp}{t:TE}(h:PC X op a b t)(h1:behindInMarks op b=false:=by first | exact uE _ (by decide) (by decide) | rfl):PE X (.Compare a [op] [b] pos) t:=fun pins s Gd H Q I hw=>wpAny_Compare1 (h pins s Gd H Q I hw) h1
theorem gG {op:CmpOp}{t:TE}(h:PC X op a b t)(h1:behindInMarks op b=false:=by first | exact uE _ (by decide) (by decide) | rfl):PT X (.Compare a [op] [b] pos) (tB t):=by
 intro pins s Gd H Q I hw
 refine wpAny_isTrue_Compare1 (bo (h pins s Gd H _ I hw) fun v s1 h1=>bo h1 fun u s2 h2=>bo h2 fun c s3 ⟨x,H1,I1,r1,q1⟩=>?_) h1
 obtain⟨d,rfl,q⟩:=q1
 cases r1
 exact Jo ⟨H1,I1,q⟩
theorem j9 {e:Expr}{t:TE}(h:PE X e t)(he:∀whole,isTrue e X.env whole=(do let v <-whole;standAt e.pos;holding [v] (truthy v)):=by intro _;rfl):PT X e (tB t):=by
 intro pins s Gd H Q I hw
 refine isTrue_plain (bo (h pins s Gd H _ I hw) fun v s1 ⟨x,H1,I1,r1,q1⟩=>?_) (he _)
 obtain⟨d,rfl,q⟩:=q1
 cases r1
 exact Jo ⟨H1,I1,q⟩
variable {tA tB':TT}{rest:List Expr}
def Fb (t u:TT):TT:=fun Gd H Q=>t Gd H fun c H1=>if c=true then u Gd H1 Q else Q false H1
def FL (t u:TT):TT:=fun Gd H Q=>t Gd H fun c H1=>if c=true then Q true H1 else u Gd H1 Q
def Fc (t:TT):TT:=fun Gd H Q=>t Gd H fun c H1=>Q (!c) H1
theorem jW (ha:PT X a tA):PW X (.BoolOp .And [a] pos) tA:=by
 intro wh pins s Gd H Q I h
 refine isTrue_and (bo (ha pins s Gd H Q I h) fun c s1 e=>?_)
 cases c with
 | true=>exact isTrue_and_nil e
 | false=>exact e
theorem yZ (ha:PT X a tA):PW X (.BoolOp .Or [a] pos) tA:=by
 intro wh pins s Gd H Q I h
 refine isTrue_or (bo (ha pins s Gd H Q I h) fun c s1 e=>?_)
 cases c with
 | false=>exact isTrue_or_nil e
 | true=>exact e
theorem kc (ha:PT X a tA)(hb:PW X (.BoolOp .And (b::rest) pos) tB'):PW X (.BoolOp .And (a::b::rest) pos) (Fb tA tB'):=by
 intro wh pins s Gd H Q I h
 refine isTrue_and (bo (ha pins s Gd H _ I h) fun c s1 ⟨H1,I1,q1⟩=>?_)
 cases c with
 | true=>exact hb wh pins s1 Gd H1 Q I1 q1
 | false=>exact⟨H1,I1,q1⟩
theorem BS (ha:PT X a tA)(hb:PW X (.BoolOp .Or (b::rest) pos) tB'):PW X (.BoolOp .Or (a::b::rest) pos) (FL tA tB'):=by
 intro wh pins s Gd H Q I h
 refine isTrue_or (bo (ha pins s Gd H _ I h) fun c s1 ⟨H1,I1,q1⟩=>?_)
 cases c with
 | true=>exact⟨H1,I1,q1⟩
 | false=>exact hb wh pins s1 Gd H1 Q I1 q1
theorem y0 (ha:PT X a tA):PT X (.UnaryOp .Not a pos) (Fc tA):=by
 intro pins s Gd H Q I h
 exact isTrue_not (ha pins s Gd H (fun c H1=>Q (!c) H1) I h)
def Et (ta tb:TE):TE:=fun Gd H Q=>ta Gd H fun x H1=>∃c,x=.bl c/\if c=true then tb Gd H1 Q else Q (.bl false) H1
def Fd (ta tb:TE):TE:=fun Gd H Q=>ta Gd H fun x H1=>∃c,x=.bl c/\if c=true then Q (.bl true) H1 else tb Gd H1 Q
theorem lF {op}{t:TE}(h:PE X a t):PE X (.BoolOp op [a] pos) t:=fun pins s Gd H Q I hw=>BoolOp_one (h pins s Gd H Q I hw)
theorem uG (ha:PE X a ta)(hb:PE X (.BoolOp .And (b::rest) pos) tb):PE X (.BoolOp .And (a::b::rest) pos) (Et ta tb):=by
 intro pins s Gd H Q I h
 refine BoolOp_and (bo (ha pins s Gd H _ I h) fun v s1 ⟨x,H1,I1,r1,q1⟩=>?_)
 obtain⟨c,rfl,q1⟩:=q1
 cases r1
 refine Jo ?_
 cases c with
 | true=>exact hb pins s1 Gd H1 Q I1 q1
 | false=>exact⟨.bl false,H1,I1,rfl,q1⟩
theorem xM (ha:PE X a ta)(hb:PE X (.BoolOp .Or (b::rest) pos) tb):PE X (.BoolOp .Or (a::b::rest) pos) (Fd ta tb):=by
 intro pins s Gd H Q I h
 refine BoolOp_or (bo (ha pins s Gd H _ I h) fun v s1 ⟨x,H1,I1,r1,q1⟩=>?_)
 obtain⟨c,rfl,q1⟩:=q1
 cases r1
 refine Jo ?_
 cases c with
 | false=>exact hb pins s1 Gd H1 Q I1 q1
 | true=>exact⟨.bl true,H1,I1,rfl,q1⟩
def FN (t:TT)(ta tb:TE):TE:=fun Gd H Q=>t Gd H fun c H1=>if c=true then ta Gd H1 Q else tb Gd H1 Q
theorem eB {c:Expr}(hc:PT X c tA)(ha:PE X a ta)(hb:PE X b tb):PE X (.IfExp c a b pos) (FN tA ta tb):=by
 intro pins s Gd H Q I h
 refine wpAny_IfExp (bo (hc pins s Gd H _ I h) fun d s1 ⟨H1,I1,q1⟩=>?_)
 cases d with
 | true=>exact ha pins s1 Gd H1 Q I1 q1
 | false=>exact hb pins s1 Gd H1 Q I1 q1
end
def aY (K:Gh)(H:Hp)(a:Addr)(xs:List V):Prop :=
 Rd H a (.lst xs) \/
  ∃(o:Obj) (its:Array Value) (n:Nat),K.lookup a=some o/\o.cls=.type "list" /\ o.dict=none/\o.data=.seq its n/\its.size<=sizeLine/\Vals xs its.toList
def ay (K:Gh)(H:Hp)(a:Addr)(xs:List V):Prop :=
 Rd H a (.tup xs) \/
  ∃(o:Obj) (its:Array Value) (n:Nat),K.lookup a=some o/\o.cls=.type "tuple" /\ o.data=.seq its n/\its.size<=sizeLine/\Vals xs its.toList
def Fe:Value->Option V
 | .none=>some .bL
 | .bool b=>some (.bl b)
 | .int i _=>some (.int i)
 | .str x _=>some (.str x)
 | .bytes b _=>some (.j6 b)
 | .float b _=>some (.yU b)
 | .ref a=>some (.ref a)
 | .type n=>some (.ty n)
 | _=>none
theorem RelV.abs {x:V}{u:Value}(r:RelV x u):Fe u=some x:=by
 cases x with
 | bL=>cases r;rfl
 | bl _=>cases r;rfl
 | int _=>obtain⟨t,rfl⟩:=r;rfl
 | str _=>obtain⟨t,rfl⟩:=r;rfl
 | j6 _=>obtain⟨t,rfl⟩:=r;rfl
 | yU _=>obtain⟨t,rfl⟩:=r;rfl
 | ref _=>cases r;rfl
 | ty _=>cases r;rfl
theorem RelV.inj {x y:V}{u:Value}(r:RelV x u)(q:RelV y u):x=y:=GL.inj (r.abs.symm.trans q.abs)
theorem Vals.inj:∀{xs ys:List V} {us:List Value},Vals xs us->Vals ys us->xs=ys
 | _,_,_,.nil,.nil=>rfl
 | _,_,_,.cons r t,.cons r' t'=>by rw [r.inj r',Vals.inj t t']
section
variable {X:Cx}{pins:List (Addr×Obj)}{Gd : St}{H:Hp}{s:Shared}{a:Addr}{xs ys:List V}
theorem aY.of {K:Gh}(h:H a=some (.lst xs)):aY K H a xs:=.inl (.inl h)
theorem ay.of {K:Gh}(h:H a=some (.tup xs)):ay K H a xs:=.inl (.inl h)
theorem Inv.list (I:Inv X pins Gd H s)(h:aY X.K H a xs):∃its:List Value,Vals xs its/\PlainL s.heap a its.toArray/\xs.length<=sizeLine:=by
 rcases h with h | ⟨o,its,n,hk,hc,hd,hs,hz,r⟩
 ·obtain⟨z,its,n,r,e⟩:=h.ok I.aZ
  exact⟨its,r,⟨_,n,e,rfl,rfl,rfl⟩,z⟩
 ·refine⟨its.toList,r,⟨o,n,I.jn a o hk,hc,hd,by simpa using hs⟩,?_⟩
  have e:=r.length
  simp only [G4] at e
  omega
theorem Inv.tuple (I:Inv X pins Gd H s)(h:ay X.K H a xs):∃its:List Value,Vals xs its/\IsTup s.heap a its.toArray/\xs.length<=sizeLine:=by
 rcases h with h | ⟨o,its,n,hk,hc,hs,hz,r⟩
 ·obtain⟨z,its,r,o,e,c,n,d,_⟩:=h.ok I.aZ
  exact⟨its,r,⟨o,e,c,n,d⟩,z⟩
 ·refine⟨its.toList,r,⟨o,I.jn a o hk,hc,n,by simpa using hs⟩,?_⟩
  have e:=r.length
  simp only [G4] at e
  omega
theorem Inv.Ap (I:Inv X pins Gd H s)(h:aY X.K H a xs)(h':aY X.K H a ys):xs=ys:=by
 obtain⟨its,r,⟨o,n,e,_,_,d⟩,_⟩:=I.list h
 obtain⟨its',r',⟨o',n',e',_,_,d'⟩,_⟩:=I.list h'
 rw [e] at e';cases e'
 rw [d] at d'
 injection d' with d1 _
 have:its=its':=by simpa using congrArg Array.toList d1
 subst this
 exact r.inj r'
theorem Inv.mZ (I:Inv X pins Gd H s)(h:ay X.K H a xs)(h':ay X.K H a ys):xs=ys:=by
 obtain⟨its,r,⟨o,e,_,n,d⟩,_⟩:=I.tuple h
 obtain⟨its',r',⟨o',e',_,n',d'⟩,_⟩:=I.tuple h'
 rw [e] at e';cases e'
 rw [d] at d'
 injection d' with d1 _
 have:its=its':=by simpa using congrArg Array.toList d1
 subst this
 exact r.inj r'
end
abbrev Cx.kZ (X:Cx)(E:Value->Shared->Prop):Cx:={ X with xe:=E }
abbrev Cx.wK (X:Cx):Cx:=X.kZ fun _ _=>False
theorem Cx.Ok.kZ {X:Cx}(ok:X.Ok)(E:Value->Shared->Prop):(X.kZ E).Ok :=
 ⟨ok.mod,ok.kind,ok.glob,ok.blt,ok.above,ok.inj,ok.has,ok.yX,ok.hd,ok.frames,ok.BR,ok.EU,ok.bs,ok.p8,ok.uA,ok.xK,ok.jD,ok.uB⟩
theorem Cx.Ok.jo {X:Cx}{E:Value->Shared->Prop}(ok:(X.kZ E).Ok):X.Ok :=
 ⟨ok.mod,ok.kind,ok.glob,ok.blt,ok.above,ok.inj,ok.has,ok.yX,ok.hd,ok.frames,ok.BR,ok.EU,ok.bs,ok.p8,ok.uA,ok.xK,ok.jD,ok.uB⟩
section
variable {X:Cx}{pins:List (Addr×Obj)}{Gd : St}{H:Hp}{s:Shared}{E:Value->Shared->Prop}
theorem Inv.kZ (I:Inv X pins Gd H s)(E:Value->Shared->Prop):Inv (X.kZ E) pins Gd H s:=⟨I.ok.kZ E,I.os,I.bare,I.base,I.loc,I.cell,I.free,I.iq,I.pin,I.aZ,I.len⟩
theorem Inv.jo (I:Inv (X.kZ E) pins Gd H s):Inv X pins Gd H s:=⟨I.ok.jo,I.os,I.bare,I.base,I.loc,I.cell,I.free,I.iq,I.pin,I.aZ,I.len⟩
theorem SP.jo {D:Ends}{f:Flow}{s':Shared}(h:SP (X.kZ E) pins D f s'):SP X pins D f s':=by
 cases f with
 | next=>obtain⟨σ',H',I,q⟩:=h;exact⟨σ',H',I.jo,q⟩
 | brk=>obtain⟨σ',H',I,q⟩:=h;exact⟨σ',H',I.jo,q⟩
 | cont=>obtain⟨σ',H',I,q⟩:=h;exact⟨σ',H',I.jo,q⟩
 | ret u=>obtain⟨v,σ',H',I,r,q⟩:=h;exact⟨v,σ',H',I.jo,r,q⟩
theorem kJ.wK {st:List Stmt}{t:TS}(h:kJ X.wK st t):kJ X st t:=fun pins s Gd H D I hw =>
 Ja (h pins s Gd H D (I.kZ _) hw) (fun _ _ q=>q.jo) fun _ _ z=>False.elim z
end
section
variable {X:Cx}{st:Stmt}{rest:List Stmt}{t u:TS}{e:Expr}{te:TE}{pos:Pos}
def Eu:TS:=fun D Gd H=>D.nx Gd H
def Ff (t u:TS):TS:=fun D Gd H=>t { D with nx:=u D } Gd H
theorem bf:kJ X [] Eu:=fun _ _ Gd H _ I h=>Jw ⟨Gd,H,I,h⟩
theorem ah (h1:PS X st t)(h2:kJ X rest u):kJ X (st::rest) (Ff t u):=by
 intro pins s Gd H D I h
 refine wpAny_execs_cons (bo (h1 pins s Gd H { D with nx:=u D } I h) fun f s1 q=>?_)
 cases f with
 | next =>
  obtain⟨σ',H',I',q⟩:=q
  exact h2 pins s1 σ' H' D I' q
 | ret v=>exact q
 | brk=>exact q
 | cont=>exact q
theorem av (h1:PS X st t):kJ X [st] t:=by
 intro pins s Gd H D I h
 refine wpAny_execs_cons (bo (h1 pins s Gd H D I h) fun f s1 q=>?_)
 cases f with
 | next=>exact Jw q
 | ret v=>exact q
 | brk=>exact q
 | cont=>exact q
theorem Inv.quiet {pins:List (Addr×Obj)}{Gd : St}{H:Hp}{s:Shared}(I:Inv X pins Gd H s):interactive X.env=false:=by simp [interactive,I.ok.kind]
def Ew (te:TE):TS:=fun D Gd H=>te Gd H fun _ H1=>D.nx Gd H1
theorem cx (he:PE X e te)(hs:swapsWith e none pos.line X.env=pure false:=by rfl):PS X (.Expr e pos) (Ew te):=by
 intro pins s Gd H D I h
 exact wpAny_Expr_any (bo (he pins s Gd H _ I h) fun v s1 ⟨x,H1,I1,r1,q1⟩=>⟨Gd,H1,I1,q1⟩) I.quiet hs
def Fg (te:TE):TS:=fun D Gd H=>te Gd H D.rt
theorem aC (he:PE X e te):PS X (.Return (some e) pos) (Fg te):=by
 intro pins s Gd H D I h
 exact wpAny_Return_some (bo (he pins s Gd H _ I h) fun v s1 ⟨x,H1,I1,r1,q1⟩=>⟨x,Gd,H1,I1,r1,q1⟩)
def Fh (c:TT)(t u:TS):TS:=fun D Gd H=>c Gd H fun b H1=>if b=true then t D Gd H1 else u D Gd H1
theorem bw {c:Expr}{a b:List Stmt}{tc:TT}(hc:PT X c tc)(ha:kJ X a t)(hb:kJ X b u):PS X (.If c a b pos) (Fh tc t u):=by
 intro pins s Gd H D I h
 refine wpAny_If (bo (hc pins s Gd H _ I h) fun d s1 ⟨H1,I1,q1⟩=>?_)
 cases d with
 | true=>exact ha pins s1 Gd H1 D I1 q1
 | false=>exact hb pins s1 Gd H1 D I1 q1
def Ds:TS:=fun _ _ _=>False
theorem Aq:PS X st Ds:=fun _ _ _ _ _ _ h=>h.elim
end
abbrev TG:=V->St->Hp->(St->Hp->Prop)->Prop
abbrev sP:=List V->St->Hp->(St->Hp->Prop)->Prop
def PG (X:Cx)(target:Expr)(t:TG):Prop :=
 ∀(pins:List (Addr×Obj)) (s:Shared) (Gd : St) (H:Hp) (v:V) (u:Value) (Q:St->Hp->Prop),Inv X pins Gd H s->RelV v u->t v Gd H Q ->
  wpAny (model X.prog X.w) X.A (assign target X.env u) (fun _ s'=>∃σ' H',Inv X pins σ' H' s'/\Q σ' H') X.xe s
def BU (X:Cx)(ts:List Expr)(t:sP):Prop :=
 ∀(pins:List (Addr×Obj)) (s:Shared) (Gd : St) (H:Hp) (vs:List V) (us:List Value) (Q:St->Hp->Prop),Inv X pins Gd H s->Vals vs us->t vs Gd H Q ->
  wpAny (model X.prog X.w) X.A (assignInOrder ((assignEach ts X.env).map (·.2)) us) (fun _ s'=>∃σ' H',Inv X pins σ' H' s'/\Q σ' H') X.xe s
abbrev Ar:=V->V->V->Hp->(Hp->Prop)->Prop
def As (X:Cx)(t:Ar):Prop :=
 ∀(pins:List (Addr×Obj)) (s:Shared) (Gd : St) (H:Hp) (o i v:V) (ov iv u:Value) (Q:Hp->Prop),Inv X pins Gd H s->RelV o ov->RelV i iv->RelV v u->t o i v H Q ->
  wpAny (model X.prog X.w) X.A (setItem ov iv u) (fun _ s'=>∃H',Inv X pins Gd H' s'/\Q H') X.xe s
abbrev BW:=V->V->Hp->VK->Prop
def EV (X:Cx)(op:Operator)(t:BW):Prop :=
 ∀(pins:List (Addr×Obj)) (s:Shared) (Gd : St) (H:Hp) (x y:V) (v u:Value) (Q:VK),Inv X pins Gd H s->RelV x v->RelV y u->t x y H Q ->
  wpAny (model X.prog X.w) X.A (inplaceOp op v u) (EP X pins Gd Q) X.xe s
section
variable {X:Cx}{pos:Pos}
def um (i:Nat):TG:=fun v Gd H Q=>Q (Gd.set i (some v)) H
theorem aG {i:Nat}{x:Str}(hN:X.N.Nodup)(hi:X.N[i]?=some x)(hx:Loc X.env.scope x)(hf:X.fn x=true\/X.env.scope.names.lookup x=some .local:=by first | exact .inl rfl | exact .inr rfl | assumption):PG X (.Name x pos) (um i):=by
 intro pins s Gd H v u Q I r h
 exact wpAny_assign_Name (j7 I hN hi hx r (fun s' I'=>⟨_,H,I',h⟩) hf)
def Fi:sP:=fun vs Gd H Q=>vs=[]/\Q Gd H
def Ex (t:TG)(u:sP):sP:=fun vs Gd H Q=>∃v r,vs=v::r/\t v Gd H fun σ' H'=>u r σ' H' Q
theorem cI:BU X [] Fi:=by
 intro pins s Gd H vs us Q I r h
 obtain⟨e,h⟩:=h
 subst e
 cases r
 exact assignInOrder_nil ⟨Gd,H,I,h⟩
theorem aR {e:Expr}{es:List Expr}{t:TG}{u:sP}(h1:PG X e t)(h2:BU X es u)
  (hs:(assignEach (e::es) X.env).map (·.2)=assign e X.env::(assignEach es X.env).map (·.2):=by rfl):BU X (e::es) (Ex t u):=by
 intro pins s Gd H vs us Q I r h
 obtain⟨v,vr,e1,h⟩:=h
 subst e1
 cases r with
 | cons r rr =>
  rw [hs]
  refine assignInOrder_cons (bo (h1 pins s Gd H _ _ _ I r h) fun _ s1 ⟨σ1,H1,I1,q1⟩=>?_)
  exact h2 pins s1 σ1 H1 _ _ Q I1 rr q1
def Au (K:Gh)(n:Nat)(t:sP):TG:=fun v Gd H Q=>∃a xs,v=.ref a/\ay K H a xs/\xs.length=n/\t xs Gd H Q
theorem cU {es:List Expr}{k:Nat}{t:sP}{n:Nat}(hc:X.calm=true)(h:BU X es t)
  (hn:(assignEach es X.env).length=n:=by rfl) (hst:(assignEach es X.env).findIdx? (·.1)=none:=by rfl):PG X (.Tuple es k pos) (Au X.K n t):=by
 intro pins s Gd H v u Q I r hw
 obtain⟨a,xs,e1,hq,hl,hw⟩:=hw
 subst e1
 cases r
 obtain⟨its,rv,ht,hz⟩:=I.tuple hq
 refine assign_Tuple_tuple (I.ok.hd hc) ht (by simp [hn,<-hl,rv.length]) hst fun h' hx=>?_
 have I1:Inv X pins Gd H { s with heap:=h' }:=I.kept (t':=s.toks) fun b o e=>hx b o (Gw (Gq e)) e
 exact h pins _ Gd H xs _ Q I1 (by simpa using rv) hw
def Fj (to ti:TE)(t:Ar):TG:=fun v Gd H Q=>to Gd H fun o H1=>ti Gd H1 fun i H2=>t o i v H2 fun H3=>Q Gd H3
theorem qc {o i:Expr}{to ti:TE}{t:Ar}(ho:PE X o to)(hi:PE X i ti)(hs:As X t)
  (ha:∀v,assign (.Subscript o i pos) X.env v=(do
   let ov <-holding [v] (eval o X.env)
   let iv <-holding [v,ov] (eval i X.env)
   standAt pos
   holding [v,ov,iv] (setItem ov iv v)
   release [v,ov,iv] []):=by intro _;rfl):PG X (.Subscript o i pos) (Fj to ti t):=by
 intro pins s Gd H v u Q I r h
 rw [ha]
 refine IZ (Jc (bo (ho pins s Gd H _ I h) fun ov s1 ⟨x,H1,I1,r1,q1⟩=>?_))
 refine IZ (Jc (bo (hi pins s1 Gd H1 _ I1 q1) fun iv s2 ⟨y,H2,I2,r2,q2⟩=>?_))
 refine IZ (Jp (IZ (Jc (bo (hs pins s2 Gd H2 x y v ov iv u _ I2 r1 r2 r q2) fun _ s3 ⟨H3,I3,q3⟩=>?_))))
 exact wpAny_release ⟨Gd,H3,I3,q3⟩
def Av (te:TE)(g:TG):TS:=fun D Gd H=>te Gd H fun x H1=>g x Gd H1 D.nx
theorem cV {tg e:Expr}{te:TE}{g:TG}(he:PE X e te)(hg:PG X tg g)(hs:swapsWithSole [tg] e pos.line X.env=pure false:=by rfl)(hw:swappedStores [tg] e X.env=pure none:=by rfl)
  (h1:(assignEach [tg] X.env).map (·.2)=[assign tg X.env]:=by rfl):PS X (.Assign [tg] e pos) (Av te g):=by
 intro pins s Gd H D I h
 refine wpAny_Assign_stores (bo (he pins s Gd H _ I h) fun v s1 ⟨x,H1,I1,r1,q1⟩=>?_) hs hw
 rw [h1]
 exact bo (hg pins s1 Gd H1 x v _ I1 r1 q1) fun _ s2 q=>q
theorem aT {i:Nat}{x:Str}{e:Expr}{te:TE}{pos':Pos}(hN:X.N.Nodup)(hi:X.N[i]?=some x)(hx:Loc X.env.scope x)(he:PE X e te)(hs:swapsWith e (some (.Name x pos')) pos.line X.env=pure false:=by rfl)(hf:X.fn x=true\/X.env.scope.names.lookup x=some .local:=by first | exact .inl rfl | exact .inr rfl | assumption) :
  PS X (.Assign [.Name x pos'] e pos) (Av te (um i)):=by
 intro pins s Gd H D I h
 refine wpAny_Assign_Name (bo (he pins s Gd H _ I h) fun v s1 ⟨y,H1,I1,r1,q1⟩=>?_) hs
 exact j7 I1 hN hi hx r1 (fun s2 I2=>⟨_,H1,I2,q1⟩) hf
def Fl (i j:Nat)(ta:TA):TS:=fun D Gd H=>ta Gd H fun vs H1=>∃v w,vs=[v,w]/\D.nx ((Gd.set i (some v)).set j (some w)) H1
theorem y3 {i j:Nat}{x y:Str}{a b:Expr}{ta:TA}{px py pt:Pos}{kt k2 pt2}(hc:X.calm=true)(hN:X.N.Nodup)(hi:X.N[i]?=some x)(hj:X.N[j]?=some y)(hij:i≠j)
  (hx:X.env.scope.names.lookup x=some .local) (hy:X.env.scope.names.lookup y=some .local) (ha:PA X [a,b] ta)
  (hw:swappedStores [.Tuple [.Name x px,.Name y py] kt pt] (.Tuple [a,b] k2 pt2) X.env=pure (some [x,y]))
  (hs:swapsWithSole [.Tuple [.Name x px,.Name y py] kt pt] (.Tuple [a,b] k2 pt2) pos.line X.env=pure false:=by rfl) :
  PS X (.Assign [.Tuple [.Name x px,.Name y py] kt pt] (.Tuple [a,b] k2 pt2) pos) (Fl i j ta):=by
 intro pins s Gd H D I h
 rw [exec_Assign_arm]
 refine IZ (Jp ?_)
 rw [hs]
 refine IZ (I0 ?_)
 rw [if_neg (by decide)]
 refine IZ (Tuple_ (bo (ha _ pins s Gd H _ I h) fun us s1 ⟨vs,H1,I1,r1,q1⟩=>?_))
 obtain⟨v,w,e1,q1⟩:=q1
 subst e1
 obtain⟨u1,u2,rfl,rv,rw'⟩:∃u1 u2,us=[u1,u2]/\RelV v u1/\RelV w u2:=by
  cases r1 with
  | cons p q =>
   cases q with
   | cons p' q' =>
    cases q'
    exact⟨_,_,rfl,p,p'⟩
 refine Je ?_ (by show 2<=sizeLine;decide)
 have I2:Inv X pins Gd H1 { s1 with heap:=s1.heap.push { cls:=.type "tuple",data:=.seq [u1,u2].toArray } }:=I1.kept (t':=s1.toks) fun b o e=>Gs _ e
 rw [hw]
 refine IZ (I0 ?_)
 show wpAny (model X.prog X.w) X.A (do rule "assign.swapped-stores";let items <-unpackItems (.ref s1.heap.objs.size) 2 none;assignInOrder [fun v=>bindName X.env y v,fun v=>bindName X.env x v] items.reverse;pure Flow.next) _ _ _
 refine IZ (Ji (IZ (unpackItems_tuple (items:=#[u1,u2]) (I.ok.hd hc) (IsTup.new s1.heap _) fun h' hx'=>?_)))
 have I3:=I2.kept (h':=h') (t':=s1.toks) fun b o e=>hx' b o (Gw (Gq e)) e
 show wpAny _ _ (assignInOrder [fun v=>bindName X.env y v,fun v=>bindName X.env x v] [u2,u1] >>= fun _=>pure Flow.next) _ _ _
 refine IZ (assignInOrder_cons (wpAny_bindName (j7 I3 hN hj (.inl hy) rw' (fun s2 I4=>?_) (.inr hy))))
 refine assignInOrder_cons (wpAny_bindName (j7 I4 hN hi (.inl hx) rv (fun s3 I5=>assignInOrder_nil (I0 ?_)) (.inr hx)))
 rw [List.set_comm _ _ (Ne.symm hij)] at I5
 exact⟨_,H1,I5,q1⟩
def Fm (i:Nat)(te:TE)(ti:BW):TS:=fun D Gd H=>∃x,Gd[i]?=some (some x)/\te Gd H fun y H1=>ti x y H1 fun z H2=>D.nx (Gd.set i (some z)) H2
theorem Dt {i:Nat}{x:Str}{e:Expr}{te:TE}{op:Operator}{ti:BW}{pos':Pos}(hN:X.N.Nodup)(hi:X.N[i]?=some x)(hx:Loc X.env.scope x)(he:PE X e te)(ho:EV X op ti)(hf:X.fn x=true\/X.env.scope.names.lookup x=some .local:=by first | exact .inl rfl | exact .inr rfl | assumption) :
  PS X (.AugAssign (.Name x pos') op e pos) (Fm i te ti):=by
 intro pins s Gd H D I h
 obtain⟨v,e1,h⟩:=h
 obtain⟨m,hn,hl⟩:=I.loc
 have vis:BQ X.env.scope x:=by rcases hx with k | k;exact .inl k;exact .inr (.inl k)
 obtain⟨u,r,l⟩:=hl i x v hi e1 vis
 refine wpAny_AugAssign_Name ?_
 have go:wpAny (model X.prog X.w) X.A (eval e X.env) (fun w s₂=>wpAny (model X.prog X.w) X.A (inplaceOp op u w) (fun r s₃=>wpAny (model X.prog X.w) X.A (storeName X.env x r) (fun _=>SP X pins D .next) X.xe s₃) X.xe s₂) X.xe s:=by
  refine bo (he pins s Gd H _ I h) fun w s1 ⟨y,H1,I1,r1,q1⟩=>?_
  refine bo (ho pins s1 Gd H1 v y u w _ I1 r r1 q1) fun z s2 ⟨zv,H2,I2,r2,q2⟩=>?_
  exact j7 I2 hN hi hx r2 (fun s3 I3=>⟨_,H2,I3,q2⟩) hf
 rcases l with ⟨hk,hm⟩ | ⟨hk,c,hc,hcell⟩
 ·exact wpAny_loadName_local I.ok.kind hk hn hm go
 ·rcases hk with hk | hk
  ·exact wpAny_loadName_cell I.ok.kind hk hc hcell go
  ·rcases hx with k | k
   ·have:X.env.scope.names.lookup x=some .free:=hk
    rw [k] at this;cases this
   ·have:X.env.scope.names.lookup x=some .free:=hk
    rw [k] at this;cases this
def FO (f:Int->Int->Int):BW:=fun x y H Q=>∃i j,x=.int i/\y=.int j/\Q (.int (f i j)) H
theorem Du:EV X .Add (FO fun i j=>i+j):=by
 intro pins s Gd H x y v u Q I r1 r2 h
 obtain⟨i,j,e1,e2,q⟩:=h
 subst e1;subst e2
 obtain⟨t,rfl⟩:=r1
 obtain⟨t',rfl⟩:=r2
 exact iadd_int ⟨.int _,H,I.tok _,⟨_,rfl⟩,q⟩
end
section
variable {X:Cx}{pos:Pos}
def Dv (c:TT)(tb:TS):TS:=fun D Gd H=>∃W:Nat->St->Hp->Prop,(∃m,W m Gd H)/\∀m Gd H,W m Gd H ->
 c Gd H fun b H1=>if b=true then ∃N:St->Hp->Prop,(∀σ' H',N σ' H'->∃m',m' < m/\W m' σ' H')/\tb { D with nx:=N,ct:=N,bk:=D.nx } Gd H1 else D.nx Gd H1
theorem kd {c:Expr}{body:List Stmt}{tc:TT}{tb:TS}(hp:PassesOwn (model X.prog X.w) X.A X.env X.xe)(hc:PT X c tc)(hb:kJ X body tb):PS X (.While c body [] pos) (Dv tc tb):=by
 intro pins s Gd H D I h
 obtain⟨W,⟨m0,w0⟩,turn⟩:=h
 refine wpAny_While (codeAny_whileLoop (fun n s'=>∃σ' H',Inv X pins σ' H' s'/\W n σ' H') ?_ m0 ⟨Gd,H,I,w0⟩)
 rintro n s1 ⟨σ1,H1,I1,w1⟩
 refine Jl hp (bo (hc pins s1 σ1 H1 _ I1 (turn n σ1 H1 w1)) fun b s2 ⟨H2,I2,q2⟩=>?_)
 cases b with
 | true =>
  obtain⟨N,hN,q2⟩:=q2
  rw [if_pos rfl]
  refine Jl hp (bo (hb pins s2 σ1 H2 _ I2 q2) fun f s3 q3=>?_)
  cases f with
  | next =>
   obtain⟨σ3,H3,I3,n3⟩:=q3
   obtain⟨m',hm,w3⟩:=hN σ3 H3 n3
   exact⟨m',hm,σ3,H3,I3,w3⟩
  | cont =>
   obtain⟨σ3,H3,I3,n3⟩:=q3
   obtain⟨m',hm,w3⟩:=hN σ3 H3 n3
   exact⟨m',hm,σ3,H3,I3,w3⟩
  | brk=>exact q3
  | ret v=>exact q3
 | false =>
  rw [if_neg GR]
  exact Jw ⟨σ1,H2,I2,q2⟩
end
structure It where
 go:Nat->Hp->Prop
 y4:Nat->Hp->V->Hp->Prop
 stop:Nat->Hp->Prop
def ke (X:Cx)(pins:List (Addr×Obj))(H:Hp)(b:Addr):Prop :=
 H b=none/\b≠X.env.locals/\b∉X.fs/\(b∈X.ex\/X.eU.heap.objs.size<=b)/\(∀x c,X.env.cells.lookup x=some c->c≠b)/\∀p∈X.pn++pins,p.1≠b
theorem Inv.rA {X:Cx}{pins:List (Addr×Obj)}{Gd : St}{H H':Hp}{s:Shared}{b:Addr}(I:Inv X pins Gd H s)(hb:s.heap.objs.size<=b)(hn:H' b=none):ke X pins H' b:=by
 refine⟨hn,Hq (GV I.lt hb),I.E8 hb,.inr (Gy I.sz hb),fun x c e z=>?_,fun p hp z=>?_⟩
 ·obtain⟨v,q⟩:=I.cell x c e
  exact absurd (GV q.lt (by rw [z];exact hb)) (GY _)
 ·exact absurd (GV (Gq (I.pin p hp).1) (by rw [z];exact hb)) (GY _)
structure Turn (P:Program) (w:World) (K:Gh) (tg:Expr) (J:It) (fp:List Addr) (it:Addr) (tn:Nat->Heap->Prop):Prop where
 mem:it∈fp
 obj:∀i h,tn i h->∀b∈fp,∃o,h.get? b=some o/\∀v,o.data≠.cell v
 keep:∀i h h',tn i h->(∀b∈fp,∀o,h.get? b=some o->h'.get? b=some o)->tn i h'
 item:∀(X:Cx),X.prog=P->X.w=w->X.K=K->X.calm=true->∀(i:Nat) (pins:List (Addr×Obj)) (s:Shared) (Gd : St) (H:Hp) (E:Value->Shared->Prop),Inv X pins Gd H s->(∀b∈fp,ke X pins H b)->tn i s.heap->J.go i H ->
  wpAny (model P w) X.A (pyNext (.ref it)) (fun r s1=>∃u,r=some u /\
   wpAny (model P w) X.A (letOwnedTupleGo tg (.ref it) u) (fun _ s2=>∃x H',Inv X pins Gd H' s2/\RelV x u/\J.y4 i H x H'/\tn (i+1) s2.heap/\∀b∈fp,H' b=none) E s1) E s
 done:∀(X:Cx),X.prog=P->X.w=w->X.K=K->X.calm=true->∀(i:Nat) (pins:List (Addr×Obj)) (s:Shared) (Gd : St) (H:Hp) (E:Value->Shared->Prop),Inv X pins Gd H s->(∀b∈fp,ke X pins H b)->tn i s.heap->J.stop i H ->
  wpAny (model P w) X.A (pyNext (.ref it)) (fun r s1=>r=none/\Inv X pins Gd H s1) E s
 self:∀(A:Around) (i:Nat) (s:Shared) (Q:Value->Shared->Prop) (E:Value->Shared->Prop),tn i s.heap->Q (.ref it) s->wpAny (model P w) A (pyIter (.ref it)) Q E s
abbrev TI:=St->Hp->(It->Hp->Prop)->Prop
def EW (X:Cx)(pins:List (Addr×Obj))(Gd : St)(tg:Expr)(R:It->Hp->Prop)(itv:Value)(s2:Shared):Prop :=
 ∃(it:Addr) (fp:List Addr) (tn:Nat->Heap->Prop) (J:It) (H':Hp),itv=.ref it/\Inv X pins Gd H' s2/\Turn X.prog X.w X.K tg J fp it tn/\tn 0 s2.heap/\(∀b∈fp,ke X pins H' b)/\R J H'
def PI (X:Cx)(tg iter:Expr)(wi:TI):Prop :=
 ∀(pins:List (Addr×Obj)) (s:Shared) (Gd : St) (H:Hp) (R:It->Hp->Prop),Inv X pins Gd H s->wi Gd H R ->
  wpAny (model X.prog X.w) X.A (eval iter X.env) (fun v s1=>wpAny (model X.prog X.w) X.A (pyIter v) (EW X pins Gd tg R) X.xe s1) X.xe s
theorem xN {M:Model}{A:Around}{E:Value->Shared->Prop}{s:Shared}{tg:Expr}{it:Addr}{u:Value}{o:Obj}{n:String}{vs:Array Value}{Q:Unit->Shared->Prop}(ho:s.heap.get? it=some o)(hc:o.cls=.type n)(hd:o.data=.fields vs)
    (hn:["enumerate", "zip", "dict_itemiterator", "dict_reverseitemiterator", "odict_iterator", "itertools.zip_longest", "itertools.pairwise"].contains n=false) (hQ:Q () s):wpAny M A (letOwnedTupleGo tg (.ref it) u) Q E s:=by
  unfold letOwnedTupleGo
  cases tg <;> first
    | exact I0 hQ
    | (cases u <;> first
        | exact I0 hQ
        | (refine IZ (wpAny_load ho ?_)
           rw [hc,hd]
           show wpAny M A (if (["enumerate", "zip", "dict_itemiterator", "dict_reverseitemiterator", "odict_iterator", "itertools.zip_longest", "itertools.pairwise"].contains n&&vs[0]? == some (rawInt _))=true then _ else _) Q E s
           rw [if_neg (by intro h;rw [hn,Ih] at h;cases h)]
           exact I0 hQ))
def Dw (K:Gh)(a:Addr):It :=
 ⟨fun i H=>∃xs x,aY K H a xs/\xs[i]?=some x,fun i H x H'=>H' = H/\∀xs,aY K H a xs->xs[i]?=some x,fun i H=>∃xs,aY K H a xs/\xs.length<=i⟩
def wL (K:Gh)(a:Addr):It :=
 ⟨fun i H=>∃xs x,ay K H a xs/\xs[i]?=some x,fun i H x H'=>H' = H/\∀xs,ay K H a xs->xs[i]?=some x,fun i H=>∃xs,ay K H a xs/\xs.length<=i⟩
def uH (lo:Int)(n:Nat):It:=⟨fun i _=>i<n,fun i H x H'=>H' = H/\x=.int (lo+i),fun i _=>n<=i⟩
theorem y6 {P:Program}{w:World}{K:Gh}{tg:Expr}(a it:Addr):Turn P w K tg (Dw K a) [it] it (fun i h=>h.IsListIter it a i) where
 mem:=by simp
 obj:=fun i h st b hb=>by
  have e:b=it:=by simpa using hb
  subst e
  obtain⟨o,e,c,d⟩:=st
  exact⟨o,e,fun v z=>by rw [d] at z;cases z⟩
 keep:=fun i h h' st k=>st.at fun o e=>k it (by simp) o e
 item:=by
  intro X hP hw hK hc i pins s Gd H E I hf st hg
  subst hP hw hK
  obtain⟨xs,x,hq,hx⟩:=hg
  obtain⟨its,rv,p,hz⟩:=I.list hq
  obtain⟨u,hu,ru⟩:=rv.get hx
  obtain⟨f0,f1,f2,f3,f4,f5⟩:=hf it (by simp)
  refine wpAny_pyNext_list_item st p.isList (x:=u) (by simpa using hu) fun h' st' sb=>?_
  have I1:Inv X pins Gd H { s with heap:=h' }:=I.turned (t':=s.toks) (fun b o hb e=>(sb.2 b hb).trans e) f0 f1 f3 f4 f5
  obtain⟨o,e,c,d⟩:=id st'
  exact⟨u,rfl,xN (s:={ s with heap:=h' }) e c d (by decide) ⟨x,H,I1,ru,⟨rfl,fun ys hy=>by rw [I.Ap hy hq];exact hx⟩,st',fun b hb=>(hf b hb).1⟩⟩
 done:=by
  intro X hP hw hK hc i pins s Gd H E I hf st hg
  subst hP hw hK
  obtain⟨xs,hq,hx⟩:=hg
  obtain⟨its,rv,p,hz⟩:=I.list hq
  obtain⟨f0,f1,f2,f3,f4,f5⟩:=hf it (by simp)
  have hl:=rv.length
  exact wpAny_pyNext_list_end (I.ok.hd hc) st p.isList (by simp;omega) fun h' eb=>⟨rfl,I.turned (t':=s.toks) (fun b o hb e=>eb b o hb e) f0 f1 f3 f4 f5⟩
 self:=fun _ _ _ _ _ st h=>wpAny_pyIter_listiter st h
theorem xO {P:Program}{w:World}{K:Gh}{tg:Expr}(a it:Addr):Turn P w K tg (wL K a) [it] it (fun i h=>h.IsTupleIter it a i) where
 mem:=by simp
 obj:=fun i h st b hb=>by
  have e:b=it:=by simpa using hb
  subst e
  obtain⟨o,e,c,d⟩:=st
  exact⟨o,e,fun v z=>by rw [d] at z;cases z⟩
 keep:=fun i h h' st k=>st.at fun o e=>k it (by simp) o e
 item:=by
  intro X hP hw hK hc i pins s Gd H E I hf st hg
  subst hP hw hK
  obtain⟨xs,x,hq,hx⟩:=hg
  obtain⟨its,rv,p,hz⟩:=I.tuple hq
  obtain⟨u,hu,ru⟩:=rv.get hx
  obtain⟨f0,f1,f2,f3,f4,f5⟩:=hf it (by simp)
  refine wpAny_pyNext_tuple_item st (show s.heap.IsTuple a its.toArray from p) (x:=u) (by simpa using hu) fun h' st' sb=>?_
  have I1:Inv X pins Gd H { s with heap:=h' }:=I.turned (t':=s.toks) (fun b o hb e=>(sb.2 b hb).trans e) f0 f1 f3 f4 f5
  obtain⟨o,e,c,d⟩:=id st'
  exact⟨u,rfl,xN (s:={ s with heap:=h' }) e c d (by decide) ⟨x,H,I1,ru,⟨rfl,fun ys hy=>by rw [I.mZ hy hq];exact hx⟩,st',fun b hb=>(hf b hb).1⟩⟩
 done:=by
  intro X hP hw hK hc i pins s Gd H E I hf st hg
  subst hP hw hK
  obtain⟨xs,hq,hx⟩:=hg
  obtain⟨its,rv,p,hz⟩:=I.tuple hq
  obtain⟨f0,f1,f2,f3,f4,f5⟩:=hf it (by simp)
  have hl:=rv.length
  exact wpAny_pyNext_tuple_end (I.ok.hd hc) st (show s.heap.IsTuple a its.toArray from p) (by simp;omega) fun h' eb=>⟨rfl,I.turned (t':=s.toks) (fun b o hb e=>eb b o hb e) f0 f1 f3 f4 f5⟩
 self:=fun _ _ _ _ _ st h=>wpAny_pyIter_tupleiter st h
theorem xP {P:Program}{w:World}{K:Gh}{tg:Expr}(it:Addr)(lo:Int)(n:Nat):Turn P w K tg (uH lo n) [it] it (fun i h=>IsRangeIter h it (lo+(i:Nat)*1) ((n:Int)-(i:Nat)) 1) where
 mem:=by simp
 obj:=fun i h st b hb=>by
  have e:b=it:=by simpa using hb
  subst e
  exact⟨_,st,fun v z=>by
   have z':Data.fields _=Data.cell v:=z
   cases z'⟩
 keep:=fun i h h' st k=>k it (by simp) _ st
 item:=by
  intro X hP hw hK hc i pins s Gd H E I hf st hg
  subst hP hw hK
  obtain⟨f0,f1,f2,f3,f4,f5⟩:=hf it (by simp)
  have W:=Walks.range (prog:=X.prog) (w:=X.w) (I.ok.hd hc) it lo 1 n
  refine W.item i s _ _ hg st fun v h' tk hv st' kk=>?_
  obtain⟨t,rfl⟩:=hv
  have I1:Inv X pins Gd H { s with heap:=h',toks:=tk }:=I.turned (fun b o hb e=>kk b o (by simpa using hb) e) f0 f1 f3 f4 f5
  refine⟨_,rfl,xN (s:={ s with heap:=h',toks:=tk }) (n := "range_iterator") st' rfl rfl (by decide) ⟨.int (lo+i),H,I1,⟨t,?_⟩,⟨rfl,rfl⟩,st',fun b hb=>(hf b hb).1⟩⟩
  rw [Int.mul_one]
 done:=by
  intro X hP hw hK hc i pins s Gd H E I hf st hg
  subst hP hw hK
  obtain⟨f0,f1,f2,f3,f4,f5⟩:=hf it (by simp)
  exact wpAny_pyNext_range_end (I.ok.hd hc) st (by have:n<=i:=hg;omega) fun h' eb=>⟨rfl,I.turned (t':=s.toks) (fun b o hb e=>eb b o hb e) f0 f1 f3 f4 f5⟩
 self:=fun _ _ _ _ _ st h=>wpAny_pyIter_rangeiter st h
section
variable {X:Cx}{tg:Expr}
def Ey (K:Gh)(tl:TE):TI:=fun Gd H R=>tl Gd H fun x H1=>∃a,x=.ref a/\(∃xs,aY K H1 a xs)/\R (Dw K a) H1
def Fn (K:Gh)(tl:TE):TI:=fun Gd H R=>tl Gd H fun x H1=>∃a,x=.ref a/\(∃xs,ay K H1 a xs)/\R (wL K a) H1
theorem wM {l:Expr}{tl:TE}(hl:PE X l tl):PI X tg l (Ey X.K tl):=by
 intro pins s Gd H R I h
 refine bo (hl pins s Gd H _ I h) fun v s1 ⟨x,H1,I1,r1,q1⟩=>?_
 obtain⟨a,e,⟨xs,hq⟩,q⟩:=q1
 subst e
 cases r1
 obtain⟨its,rv,p,hz⟩:=I1.list hq
 refine wpAny_pyIter_list p.isList ?_
 refine⟨s1.heap.objs.size,[s1.heap.objs.size],_,_,H1,rfl,I1.kept (t':=s1.toks) fun b o e=>Gs _ e,y6 a _,⟨_,Gx _ rfl,rfl,rfl⟩,fun b hb=>?_,q⟩
 have e:b=s1.heap.objs.size:=by simpa using hb
 subst e
 exact I1.rA (Gi _) (I1.aZ.fresh (Gi _))
theorem fX {l:Expr}{tl:TE}(hl:PE X l tl):PI X tg l (Fn X.K tl):=by
 intro pins s Gd H R I h
 refine bo (hl pins s Gd H _ I h) fun v s1 ⟨x,H1,I1,r1,q1⟩=>?_
 obtain⟨a,e,⟨xs,hq⟩,q⟩:=q1
 subst e
 cases r1
 obtain⟨its,rv,p,hz⟩:=I1.tuple hq
 refine Jx (show s1.heap.IsTuple a its.toArray from p) ?_
 refine⟨s1.heap.objs.size,[s1.heap.objs.size],_,_,H1,rfl,I1.kept (t':=s1.toks) fun b o e=>Gs _ e,xO a _,⟨_,Gx _ rfl,rfl,rfl⟩,fun b hb=>?_,q⟩
 have e:b=s1.heap.objs.size:=by simpa using hb
 subst e
 exact I1.rA (Gi _) (I1.aZ.fresh (Gi _))
theorem Aw {pins:List (Addr×Obj)}{Gd : St}{H:Hp}{s:Shared}{R:It->Hp->Prop}{E:Value->Shared->Prop}{lo hi:Int}{t u v:Tok}{tk:Nat}(I:Inv X pins Gd H s)(h1:-(2 ^ 62)<=lo)(h2:lo<2 ^ 62)(h3:-(2 ^ 62)<=hi)(h4:hi<2 ^ 62)
  (q:R (uH lo (hi-lo).toNat) H):wpAny (model X.prog X.w) X.A (pyIter (.ref s.heap.objs.size)) (EW X pins Gd tg R) E { s with heap:=s.heap.push { cls:=.type "range",data:=.fields #[.int lo t,.int hi u,.int 1 v] },toks:=tk }:=by
 refine wpAny_pyIter_range (IsRange.new ..) (small_one h1 h2 h3 h4) ?_
 have I1:Inv X pins Gd H { s with heap:=s.heap.push { cls:=.type "range",data:=.fields #[.int lo t,.int hi u,.int 1 v] },toks:=tk }:=I.kept fun b o e=>Gs _ e
 refine⟨(s.heap.push { cls:=.type "range",data:=.fields #[.int lo t,.int hi u,.int 1 v] }).objs.size,[(s.heap.push { cls:=.type "range",data:=.fields #[.int lo t,.int hi u,.int 1 v] }).objs.size],_,_,H,rfl,
  I1.kept (t':=tk) fun b o e=>Gs _ e,xP _ lo (hi-lo).toNat,?_,fun b hb=>?_,q⟩
 ·have e1:lo+((0:Nat):Int)*1=lo:=by simp
  have e2:(((hi-lo).toNat:Nat):Int)-((0:Nat):Int)=Builtin.Range.rangeSize lo hi 1:=by rw [rangeSize_one];split <;> omega
  show IsRangeIter _ _ (lo+((0:Nat):Int)*1) ((((hi-lo).toNat:Nat):Int)-((0:Nat):Int)) 1
  rw [e1,e2]
  exact Gx _ rfl
 ·have e:b=(s.heap.push { cls:=.type "range",data:=.fields #[.int lo t,.int hi u,.int 1 v] }).objs.size:=by simpa using hb
  subst e
  exact I1.rA (Gi _) (I1.aZ.fresh (Gi _))
def Ez (ta:TA):TI:=fun Gd H R=>ta Gd H fun vs H1=>∃j:Int,vs=[.int j]/\-(2 ^ 62)<=j/\j<2 ^ 62/\R (uH 0 j.toNat) H1
theorem fo {a:Expr} {ta:TA} {p pos:Pos} (hg:Gl X "range") (hm:X.mg "range" = none) (ha:PA X [a] ta) (hs:starEach [a] X.env=[(false,eval a X.env)]:=by rfl):PI X tg (.Call (.Name "range" p) [a] [] pos) (Ez ta):=by
 intro pins s Gd H R I h
 refine Call_ (mY I hg hm boot_range (PyProof.Rows.callWith_type1 (bo (ha pos pins s Gd H _ I h) fun us s1 ⟨vs,H1,I1,r1,q1⟩=>?_) hs rfl))
 obtain⟨j,e,q1,q2,q⟩:=q1
 subst e
 cases r1 with
 | cons r rr =>
  cases rr
  obtain⟨t,rfl⟩:=r
  exact call_range_1 (Aw I1 (by omega) (by omega) q1 q2 (by simpa using q))
def Fo (wi:TI)(g:TG)(tb:TS):TS:=fun D Gd H=>wi Gd H fun J H1=>∃W:Nat->Nat->St->Hp->Prop,(∃m,W 0 m Gd H1)/\∀i m Gd H,W i m Gd H ->
 (J.stop i H/\D.nx Gd H)\/(J.go i H/\∃N:St->Hp->Prop,(∀σ' H',N σ' H'->∃m',m' < m/\W (i+1) m' σ' H')/\∀x H',J.y4 i H x H'->g x Gd H' fun σ2 H2=>tb { D with nx:=N,ct:=N,bk:=D.nx } σ2 H2)
def m3 (fp:List Addr)(h:Heap):List (Addr×Obj):=fp.filterMap fun b=>(h.get? b).map fun o=>(b,o)
theorem jM {fp:List Addr}{h:Heap}{b:Addr}{o:Obj}(hb:b∈fp)(e:h.get? b=some o):(b,o)∈m3 fp h:=IK.mpr ⟨b,hb,by rw [e];rfl⟩
theorem y7 {fp:List Addr}{h:Heap}{p:Addr×Obj}(hp:p∈m3 fp h):p.1∈fp/\h.get? p.1=some p.2:=by
 obtain⟨b,hb,e⟩:=IK.mp hp
 cases q:h.get? b with
 | none=>rw [q] at e;cases e
 | some o =>
  rw [q] at e
  have e':(b,o)=p:=GL.inj e
  subst e'
  exact⟨hb,q⟩
theorem Inv.pinned {pins:List (Addr×Obj)}{Gd : St}{H:Hp}{s:Shared}{fp:List Addr}(I:Inv X pins Gd H s)(hf:∀b∈fp,ke X pins H b)(ho:∀b∈fp,∃o,s.heap.get? b=some o/\∀v,o.data≠.cell v):Inv X (pins++m3 fp s.heap) Gd H s :=
 I.wJ fun p hp=>(GW.mp hp).elim (fun z=>I.pin p (G0 _ z)) fun z=>by
  obtain⟨hb,e⟩:=y7 z
  obtain⟨f0,f1,f2,_⟩:=hf p.1 hb
  obtain⟨o,e',d⟩:=ho p.1 hb
  rw [e] at e';cases e'
  exact⟨e,f0,f1,f2,d⟩
theorem Inv.kf {pins pl:List (Addr×Obj)}{Gd : St}{H:Hp}{s:Shared}(I:Inv X (pins++pl) Gd H s):Inv X pins Gd H s:=I.wJ fun p hp=>I.pin p (G0 _ (Hc _ hp))
theorem fY {iter:Expr}{body:List Stmt}{wi:TI}{g:TG}{tb:TS}{pos:Pos}(hp:PassesOwn (model X.prog X.w) X.A X.env X.xe)(hc:X.calm=true)(hi:PI X tg iter wi)(hg:PG X tg g)(hb:kJ X body tb)
  (hs:∀x,foldedSetIterable iter X.env x=pure x:=by intro _;rfl):PS X (.For tg iter body [] pos) (Fo wi g tb):=by
 intro pins s Gd H D I h
 refine wpAny_For (bo (hi pins s Gd H _ I h) fun v s1 h1=>bo h1 fun itv s2 h2=>?_) hs
 obtain⟨it,fp,tn,J,H2,e,I2,T,st2,f2,W,⟨m0,w0⟩,turn⟩:=h2
 subst e
 have stat:∀{H':Hp},(∀b∈fp,H' b=none)->∀b∈fp,ke X pins H' b:=fun hn b hb=>⟨hn b hb,(f2 b hb).2⟩
 refine codeAny_forLoop_any (fun n s'=>∃i σ' H',Inv X pins σ' H' s'/\tn i s'.heap/\(∀b∈fp,H' b=none)/\W i n σ' H') ?_ m0 ⟨0,Gd,H2,I2,st2,fun b hb=>(f2 b hb).1,w0⟩
 rintro n s3 ⟨i,σ3,H3,I3,st3,fr3,w3⟩
 rcases turn i n σ3 H3 w3 with ⟨stop,qn⟩ | ⟨go,N,hN,step⟩
 ·refine Jl hp (bo (T.done X rfl rfl rfl hc i pins s3 σ3 H3 X.xe I3 (stat fr3) st3 stop) fun r s4 ⟨hr,I4⟩=>?_)
  subst hr
  exact Jw ⟨σ3,H3,I4,qn⟩
 ·refine Jl hp (bo (T.item X rfl rfl rfl hc i pins s3 σ3 H3 X.xe I3 (stat fr3) st3 go) fun r s4 ⟨u,hr,h4⟩=>?_)
  subst hr
  refine Jl hp (bo h4 fun _ s5 ⟨x,H5,I5,r5,y5,st5,fr5⟩=>?_)
  have I5':=I5.pinned (stat fr5) (T.obj _ _ st5)
  refine Jl hp (bo (hg _ s5 σ3 H5 x u _ I5' r5 (step x H5 y5)) fun _ s6 ⟨σ6,H6,I6,q6⟩=>?_)
  refine Jl hp (bo (hb _ s6 σ6 H6 _ I6 q6) fun f s7 q7=>?_)
  have again:∀{σ7:St} {H7:Hp},Inv X (pins++m3 fp s5.heap) σ7 H7 s7->N σ7 H7->∃m,m<n/\∃i σ' H',Inv X pins σ' H' s7/\tn i s7.heap/\(∀b∈fp,H' b=none)/\W i m σ' H':=fun {σ7 H7} I7 n7=>by
   obtain⟨m',hm,w7⟩:=hN σ7 H7 n7
   refine⟨m',hm,i+1,σ7,H7,I7.kf,T.keep _ _ _ st5 fun b hb o e=>(I7.pin (b,o) (G0 _ (G0 _ (jM hb e)))).1,fun b hb=>?_,w7⟩
   obtain⟨o,e,d⟩:=T.obj _ _ st5 b hb
   exact (I7.pin (b,o) (G0 _ (G0 _ (jM hb e)))).2.1
  cases f with
  | next=>obtain⟨σ7,H7,I7,n7⟩:=q7;exact again I7 n7
  | cont=>obtain⟨σ7,H7,I7,n7⟩:=q7;exact again I7 n7
  | brk=>obtain⟨σ7,H7,I7,q7⟩:=q7;exact⟨σ7,H7,I7.kf,q7⟩
  | ret v=>obtain⟨x7,σ7,H7,I7,r7,q7⟩:=q7;exact⟨x7,σ7,H7,I7.kf,r7,q7⟩
end
theorem iX {K:Gh}{a:Addr}{xs:List V}{g:TG}{tb:TS}{D:Ends}{Gd : St}{H:Hp}(Pv:Nat->St->Hp->Prop)(h0:Pv 0 Gd H)(hl:∀i Gd H,i<=xs.length->Pv i Gd H->ay K H a xs)
  (hs:∀i x Gd H,xs[i]?=some x->Pv i Gd H->g x Gd H fun σ2 H2=>tb { D with nx:=Pv (i+1),ct:=Pv (i+1),bk:=D.nx } σ2 H2) (hd:∀Gd H,Pv xs.length Gd H->D.nx Gd H) :
  ∃W:Nat->Nat->St->Hp->Prop,(∃m,W 0 m Gd H)/\∀i m Gd H,W i m Gd H ->
   ((wL K a).stop i H/\D.nx Gd H)\/((wL K a).go i H/\∃N:St->Hp->Prop,(∀σ' H',N σ' H'->∃m',m' < m/\W (i+1) m' σ' H')/\∀x H',(wL K a).y4 i H x H'->g x Gd H' fun σ2 H2=>tb { D with nx:=N,ct:=N,bk:=D.nx } σ2 H2):=by
 refine⟨fun i m Gd H=>m=xs.length-i/\i<=xs.length/\Pv i Gd H,⟨xs.length,by simp,GK _,h0⟩,?_⟩
 rintro i m Gd H ⟨rfl,hi,p⟩
 have q:=hl i Gd H hi p
 by_cases hlt:i<xs.length
 ·refine .inr ⟨⟨xs,xs[i],q,by simp [hlt]⟩,Pv (i+1),fun σ' H' p'=>⟨xs.length-(i+1),by omega,rfl,hlt,p'⟩,fun x H' y=>?_⟩
  obtain⟨e,y⟩:=y
  subst e
  exact hs i x Gd _ (y xs q) p
 ·have e:i=xs.length:=by omega
  subst e
  exact .inl ⟨⟨xs,q,Gi _⟩,hd Gd H p⟩
theorem jq {lo:Int}{n:Nat}{g:TG}{tb:TS}{D:Ends}{Gd : St}{H:Hp}(Pv:Nat->St->Hp->Prop)(h0:Pv 0 Gd H)
  (hs:∀i Gd H,i<n->Pv i Gd H->g (.int (lo+i)) Gd H fun σ2 H2=>tb { D with nx:=Pv (i+1),ct:=Pv (i+1),bk:=D.nx } σ2 H2) (hd:∀Gd H,Pv n Gd H->D.nx Gd H) :
  ∃W:Nat->Nat->St->Hp->Prop,(∃m,W 0 m Gd H)/\∀i m Gd H,W i m Gd H ->
   ((uH lo n).stop i H/\D.nx Gd H)\/((uH lo n).go i H/\∃N:St->Hp->Prop,(∀σ' H',N σ' H'->∃m',m' < m/\W (i+1) m' σ' H')/\∀x H',(uH lo n).y4 i H x H'->g x Gd H' fun σ2 H2=>tb { D with nx:=N,ct:=N,bk:=D.nx } σ2 H2):=by
 refine⟨fun i m Gd H=>m=n-i/\i<=n/\Pv i Gd H,⟨n,by simp,GK _,h0⟩,?_⟩
 rintro i m Gd H ⟨rfl,hi,p⟩
 by_cases hlt:i<n
 ·refine .inr ⟨hlt,Pv (i+1),fun σ' H' p'=>⟨n-(i+1),by omega,rfl,hlt,p'⟩,fun x H' y=>?_⟩
  obtain⟨e,y⟩:=y
  subst e y
  exact hs i Gd _ hlt p
 ·have e:i=n:=by omega
  subst e
  exact .inl ⟨Gi _,hd Gd H p⟩
abbrev R2:=V->V->Hp->VK->Prop
def fq (X:Cx)(f:Value->Value->Sem Value)(r:R2):Prop :=
 ∀(pins:List (Addr×Obj)) (s:Shared) (Gd : St) (H:Hp) (x y:V) (v u:Value) (Q:VK),Inv X pins Gd H s->RelV x v->RelV y u->r x y H Q ->
  wpAny (model X.prog X.w) X.A (f v u) (EP X pins Gd Q) X.xe s
def Dx (X:Cx)(f:Value->Sem Value)(r:V->Hp->VK->Prop):Prop :=
 ∀(pins:List (Addr×Obj)) (s:Shared) (Gd : St) (H:Hp) (x:V) (v:Value) (Q:VK),Inv X pins Gd H s->RelV x v->r x H Q ->
  wpAny (model X.prog X.w) X.A (f v) (EP X pins Gd Q) X.xe s
def eZ (X:Cx)(f:Value)(r:List V->Hp->VK->Prop):Prop :=
 ∀(pins:List (Addr×Obj)) (s:Shared) (Gd : St) (H:Hp) (xs:List V) (us:List Value) (Q:VK),Inv X pins Gd H s->Vals xs us->r xs H Q ->
  wpAny (model X.prog X.w) X.A (call f us) (EP X pins Gd Q) X.xe s
def Fp (X:Cx)(r:V->Hp->(Bool->Hp->Prop)->Prop):Prop :=
 ∀(pins:List (Addr×Obj)) (s:Shared) (Gd : St) (H:Hp) (x:V) (v:Value) (Q:Bool->Hp->Prop),Inv X pins Gd H s->RelV x v->r x H Q ->
  wpAny (model X.prog X.w) X.A (truthy v) (TP X pins Gd Q) X.xe s
def BX (r:R2)(ta tb:TE):TE:=fun Gd H Q=>ta Gd H fun x H1=>tb Gd H1 fun y H2=>r x y H2 Q
def FP (r:V->Hp->VK->Prop)(ta:TE):TE:=fun Gd H Q=>ta Gd H fun x H1=>r x H1 Q
def rI (C:Int->Int->Prop)(g:Int->Int->V):R2:=fun x y H Q=>∃i j,x=.int i/\y=.int j/\C i j/\Q (g i j) H
def uI (g:Int->Int->V):R2:=fun x y H Q=>∃i j,x=.int i/\y=.int j/\Q (g i j) H
def rU (g:Int->V):V->Hp->VK->Prop:=fun x H Q=>∃i,x=.int i/\Q (g i) H
section
variable {X:Cx}{a b c:Expr}{ta tb tc:TE}{pos:Pos}
theorem Ax (ha:PE X a ta)(hb:PE X b tb){pins:List (Addr×Obj)}{s:Shared}{Gd : St}{H:Hp}{R:V->V->Hp->Prop}(I:Inv X pins Gd H s)
  (h:ta Gd H fun x H1=>tb Gd H1 fun y H2=>R x y H2) {Q:Value->Shared->Prop} {f:Value->Value->Sem Value}
  (hf:∀v u s2 x y H2,Inv X pins Gd H2 s2->RelV x v->RelV y u->R x y H2->wpAny (model X.prog X.w) X.A (f v u) Q X.xe s2) :
  wpAny (model X.prog X.w) X.A (eval a X.env) (fun v s₁=>wpAny (model X.prog X.w) X.A (eval b X.env) (fun u s₂=>wpAny (model X.prog X.w) X.A (f v u) Q X.xe s₂) X.xe s₁) X.xe s:=by
 refine bo (ha pins s Gd H _ I h) fun v s1 ⟨x,H1,I1,r1,q1⟩=>?_
 refine bo (hb pins s1 Gd H1 _ I1 q1) fun u s2 ⟨y,H2,I2,r2,q2⟩=>?_
 exact hf v u s2 x y H2 I2 r1 r2 q2
theorem bC {op:Operator}{r:R2}(ho:fq X (binaryOp op) r)(ha:PE X a ta)(hb:PE X b tb):PE X (.BinOp a op b pos) (BX r ta tb):=by
 intro pins s Gd H Q I h
 exact wpAny_BinOp (Ax ha hb I h fun v u s2 x y H2 I2 rx ry q=>ho pins s2 Gd H2 x y v u Q I2 rx ry q)
theorem BY {op:UnaryOp}{r:V->Hp->VK->Prop}(ho:Dx X (unaryOp op) r)(ha:PE X a ta):PE X (.UnaryOp op a pos) (FP r ta):=by
 intro pins s Gd H Q I h
 exact UnaryOp_ (bo (ha pins s Gd H _ I h) fun v s1 ⟨x,H1,I1,r1,q1⟩=>ho pins s1 Gd H1 x v Q I1 r1 q1)
theorem wN {f:Value->Value->Sem Value}{C:Int->Int->Prop}{g:Int->Int->Int}
  (rule:∀(i j:Int) (t u:Tok) (s:Shared) (Q:Value->Shared->Prop) (E:Value->Shared->Prop),C i j->Q (.int (g i j) s.toks) { s with toks:=s.toks+1 }->wpAny (model X.prog X.w) X.A (f (.int i t) (.int j u)) Q E s) :
  fq X f (rI C fun i j=>.int (g i j)):=by
 intro pins s Gd H x y v u Q I rx ry h
 obtain⟨i,j,rfl,rfl,hc,q⟩:=h
 obtain⟨t,rfl⟩:=rx
 obtain⟨t',rfl⟩:=ry
 exact rule i j t t' s _ _ hc ⟨.int (g i j),H,I.tok _,⟨_,rfl⟩,q⟩
theorem Dy {f:Value->Value->Sem Value}{g:Int->Int->Int}
  (rule:∀(i j:Int) (t u:Tok) (s:Shared) (Q:Value->Shared->Prop) (E:Value->Shared->Prop),Q (.int (g i j) s.toks) { s with toks:=s.toks+1 }->wpAny (model X.prog X.w) X.A (f (.int i t) (.int j u)) Q E s) :
  fq X f (uI fun i j=>.int (g i j)):=by
 intro pins s Gd H x y v u Q I rx ry h
 obtain⟨i,j,rfl,rfl,q⟩:=h
 obtain⟨t,rfl⟩:=rx
 obtain⟨t',rfl⟩:=ry
 exact rule i j t t' s _ _ ⟨.int (g i j),H,I.tok _,⟨_,rfl⟩,q⟩
theorem Ay {f:Value->Value->Sem Value}{g:Int->Int->Bool}
  (rule:∀(i j:Int) (t u:Tok) (s:Shared) (Q:Value->Shared->Prop) (E:Value->Shared->Prop),Q (.bool (g i j)) s->wpAny (model X.prog X.w) X.A (f (.int i t) (.int j u)) Q E s) :
  fq X f (uI fun i j=>.bl (g i j)):=by
 intro pins s Gd H x y v u Q I rx ry h
 obtain⟨i,j,rfl,rfl,q⟩:=h
 obtain⟨t,rfl⟩:=rx
 obtain⟨t',rfl⟩:=ry
 exact rule i j t t' s _ _ ⟨.bl (g i j),H,I,rfl,q⟩
def Fq (i j:Int):Prop:=0<j/\j<1073741824
def Fs (i j:Int):Prop:=0<=j/\j<=1000000/\i.natAbs<2 ^ 64
def Az (i j:Int):Prop:=(-(2 ^ 64)<i/\i<2 ^ 64)\/(-(2 ^ 64)<j/\j<2 ^ 64)
theorem Az.ok {i j:Int}(h:Az i j):IntMulOk i j:=by
 rcases h with ⟨h1,h2⟩ | ⟨h1,h2⟩
 ·exact .of_left (intBits_le_64 h1 h2)
 ·exact .of_right (intBits_le_64 h1 h2)
theorem dm:fq X (binaryOp .Add) (uI fun i j=>.int (i+j)):=Dy fun _ _ _ _ _ _ _ q=>add_int q
theorem gH:fq X (binaryOp .Sub) (uI fun i j=>.int (i-j)):=Dy fun _ _ _ _ _ _ _ q=>sub_int q
theorem kh:fq X (binaryOp .Mult) (rI Az fun i j=>.int (i*j)):=wN fun _ _ _ _ _ _ _ hc q=>mul_int q hc.ok
theorem wO:fq X (binaryOp .FloorDiv) (rI Fq fun i j=>.int (i / j)):=wN fun i j _ _ _ _ _ hc q=>by
 have h1:(0:Int)<j:=hc.1
 have h2:j<1073741824:=hc.2
 exact floordiv_int (by omega) (by rw [Int.fdiv_eq_ediv_of_nonneg i (by omega)];exact q) (.inl (PyProof.noPylong_small (by omega)))
theorem ki:fq X (binaryOp .Mod) (rI (fun _ j=>0<j) fun i j=>.int (i % j)):=wN fun i j _ _ _ _ _ hc q=>by
 have h1:(0:Int)<j:=hc
 exact mod_int' (by omega) (by rw [Int.fmod_eq_emod_of_nonneg i (by omega)];exact q)
theorem qd:fq X (binaryOp .Pow) (rI Fs fun i j=>.int (i ^ j.toNat)):=wN fun _ _ _ _ _ _ _ hc q=>pow_int_small hc.1 hc.2.1 hc.2.2 q
theorem FQ {f:Value->Sem Value}{g:Int->Int}
  (rule:∀(i:Int) (t:Tok) (s:Shared) (Q:Value->Shared->Prop) (E:Value->Shared->Prop),Q (.int (g i) s.toks) { s with toks:=s.toks+1 }->wpAny (model X.prog X.w) X.A (f (.int i t)) Q E s) :
  Dx X f (rU fun i=>.int (g i)):=by
 intro pins s Gd H x v Q I rx h
 obtain⟨i,rfl,q⟩:=h
 obtain⟨t,rfl⟩:=rx
 exact rule i t s _ _ ⟨.int (g i),H,I.tok _,⟨_,rfl⟩,q⟩
theorem y8:Dx X (unaryOp .USub) (rU fun i=>.int (-i)):=FQ fun _ _ _ _ _ q=>neg_int q
end
def AA:V->V->Bool
 | .bL,.bL=>true | .bL,.int _=>true | .int _,.bL=>true | .bL,.bl _=>true | .bl _,.bL=>true | .bL,.str _=>true | .str _,.bL=>true
 | .int _,.int _=>true | .bl _,.bl _=>true | .str _,.str _=>true | .j6 _,.j6 _=>true
 | .int _,.str _=>true | .str _,.int _=>true | .bl _,.str _=>true | .str _,.bl _=>true
 | _,_=>false
def FR:R2:=fun x y H Q=>AA x y=true/\Q (.bl (decide (x=y))) H
def FT:R2:=fun x y H Q=>AA x y=true/\Q (.bl (!decide (x=y))) H
theorem rB {i j:Int}:decide (V.int i=V.int j)=(i == j):=by
 rw [Ii]
 simp
theorem y9 {i j:Bool}:decide (V.bl i=V.bl j)=(i == j):=by
 rw [Ii]
 simp
theorem wQ {i j:Str}:decide (V.str i=V.str j)=(i == j):=by
 rw [Ii]
 simp
theorem wR {i j:Array UInt8}:decide (V.j6 i=V.j6 j)=(i.toList == j.toList):=by
 rw [Ii]
 cases i
 cases j
 simp
section
variable {X:Cx}{a b c:Expr}{ta tb tc:TE}{pos:Pos}
theorem bY {pins:List (Addr×Obj)}{Gd : St}{H:Hp}{s:Shared}{Q:VK}{k k':Bool}(I:Inv X pins Gd H s)(q:Q (.bl k) H)(e:k=k'):EP X pins Gd Q (.bool k') s:=by
 subst e
 exact⟨.bl k,H,I,rfl,q⟩
theorem bP:fq X (compareOp .Eq) FR:=by
 intro pins s Gd H x y v u Q I rx ry h
 obtain⟨hs,q⟩:=h
 cases x with
 | bL =>
  cases rx
  cases y with
  | bL=>cases ry;exact PySem.EqNone.eq_none_none (bY I q (by simp))
  | bl j=>cases ry;exact PySem.EqNone.eq_none_bool (bY I q (by simp))
  | int j=>obtain⟨t',rfl⟩:=ry;exact PySem.EqNone.eq_none_int (bY I q (by simp))
  | str j=>obtain⟨t',rfl⟩:=ry;exact PySem.EqNone.eq_none_str (bY I q (by simp))
  | _=>exact absurd (show false=true from hs) GR
 | bl i =>
  cases rx
  cases y with
  | bL=>cases ry;exact PySem.EqNone.eq_bool_none (bY I q (by simp))
  | bl j=>cases ry;exact eq_bool (bY I q y9)
  | str j=>obtain⟨t',rfl⟩:=ry;exact PySem.EqMixed.eq_bool_str (bY I q (by simp))
  | _=>exact absurd (show false=true from hs) GR
 | int i =>
  obtain⟨t,rfl⟩:=rx
  cases y with
  | bL=>cases ry;exact PySem.EqNone.eq_int_none (bY I q (by simp))
  | int j=>obtain⟨t',rfl⟩:=ry;exact eq_int (bY I q rB)
  | str j=>obtain⟨t',rfl⟩:=ry;exact PySem.EqMixed.eq_int_str (bY I q (by simp))
  | _=>exact absurd (show false=true from hs) GR
 | str i =>
  obtain⟨t,rfl⟩:=rx
  cases y with
  | bL=>cases ry;exact PySem.EqNone.eq_str_none (bY I q (by simp))
  | bl j=>cases ry;exact PySem.EqMixed.eq_str_bool (bY I q (by simp))
  | int j=>obtain⟨t',rfl⟩:=ry;exact PySem.EqMixed.eq_str_int (bY I q (by simp))
  | str j=>obtain⟨t',rfl⟩:=ry;exact eq_str (bY I q wQ)
  | _=>exact absurd (show false=true from hs) GR
 | j6 i =>
  obtain⟨t,rfl⟩:=rx
  cases y with
  | j6 j=>obtain⟨t',rfl⟩:=ry;exact PySem.W.eq_bytes (bY I q wR)
  | _=>exact absurd (show false=true from hs) GR
 | _=>cases y <;> exact absurd (show false=true from hs) GR
theorem EA:fq X (compareOp .NotEq) FT:=by
 intro pins s Gd H x y v u Q I rx ry h
 obtain⟨hs,q⟩:=h
 cases x with
 | bL =>
  cases rx
  cases y with
  | bL=>cases ry;exact PySem.EqNone.ne_none_none (bY I q (by simp))
  | bl j=>cases ry;exact PySem.EqNone.ne_none_bool (bY I q (by simp))
  | int j=>obtain⟨t',rfl⟩:=ry;exact PySem.EqNone.ne_none_int (bY I q (by simp))
  | str j=>obtain⟨t',rfl⟩:=ry;exact PySem.EqNone.ne_none_str (bY I q (by simp))
  | _=>exact absurd (show false=true from hs) GR
 | bl i =>
  cases rx
  cases y with
  | bL=>cases ry;exact PySem.EqNone.ne_bool_none (bY I q (by simp))
  | bl j=>cases ry;exact ne_bool (bY I q (congrArg not y9))
  | str j=>obtain⟨t',rfl⟩:=ry;exact PySem.EqMixed.ne_bool_str (bY I q (by simp))
  | _=>exact absurd (show false=true from hs) GR
 | int i =>
  obtain⟨t,rfl⟩:=rx
  cases y with
  | bL=>cases ry;exact PySem.EqNone.ne_int_none (bY I q (by simp))
  | int j=>obtain⟨t',rfl⟩:=ry;exact ne_int (bY I q (congrArg not rB))
  | str j=>obtain⟨t',rfl⟩:=ry;exact PySem.EqMixed.ne_int_str (bY I q (by simp))
  | _=>exact absurd (show false=true from hs) GR
 | str i =>
  obtain⟨t,rfl⟩:=rx
  cases y with
  | bL=>cases ry;exact PySem.EqNone.ne_str_none (bY I q (by simp))
  | bl j=>cases ry;exact PySem.EqMixed.ne_str_bool (bY I q (by simp))
  | int j=>obtain⟨t',rfl⟩:=ry;exact PySem.EqMixed.ne_str_int (bY I q (by simp))
  | str j=>obtain⟨t',rfl⟩:=ry;exact ne_str (bY I q (congrArg not wQ))
  | _=>exact absurd (show false=true from hs) GR
 | j6 i =>
  obtain⟨t,rfl⟩:=rx
  cases y with
  | j6 j=>obtain⟨t',rfl⟩:=ry;exact PySem.W.ne_bytes (bY I q (congrArg not wR))
  | _=>exact absurd (show false=true from hs) GR
 | _=>cases y <;> exact absurd (show false=true from hs) GR
theorem gU:fq X (compareOp .Lt) (uI fun i j=>.bl (decide (i<j))):=Ay fun _ _ _ _ _ _ _ q=>lt_int q
theorem xQ:fq X (compareOp .LtE) (uI fun i j=>.bl (decide (i<=j))):=Ay fun _ _ _ _ _ _ _ q=>le_int q
theorem uo:fq X (compareOp .Gt) (uI fun i j=>.bl (decide (j<i))):=Ay fun _ _ _ _ _ _ _ q=>gt_int q
theorem aQ (b:Expr){op:CmpOp}(h:op≠.In:=by decide)(h2:op≠.NotIn:=by decide):behindInMarks op b=false:=by
 have e1:(op == CmpOp.In)=false:=by cases op <;> first | rfl | exact absurd rfl h
 have e2:(op == CmpOp.NotIn)=false:=by cases op <;> first | rfl | exact absurd rfl h2
 cases b <;> simp [behindInMarks,e1,e2]
theorem fH {op:CmpOp}{r:R2}(ho:fq X (compareOp op) r)(ha:PE X a ta)(hb:PE X b tb)(hm:behindInMarks op b=false):PE X (.Compare a [op] [b] pos) (BX r ta tb):=by
 intro pins s Gd H Q I h
 exact wpAny_Compare1 (Ax ha hb I h fun v u s2 x y H2 I2 rx ry q=>ho pins s2 Gd H2 x y v u Q I2 rx ry q) hm
def EB (t:TE):TT:=fun Gd H Q=>t Gd H fun x H'=>∃k,x=.bl k/\Q k H'
theorem aI {op:CmpOp}{r:R2}(ho:fq X (compareOp op) r)(ha:PE X a ta)(hb:PE X b tb)(hm:behindInMarks op b=false):PT X (.Compare a [op] [b] pos) (EB (BX r ta tb)):=by
 intro pins s Gd H Q I h
 refine wpAny_isTrue_Compare1 (bo (ha pins s Gd H _ I h) fun v s1 ⟨x,H1,I1,r1,q1⟩=>bo (hb pins s1 Gd H1 _ I1 q1) fun u s2 ⟨y,H2,I2,r2,q2⟩ =>
  bo (ho pins s2 Gd H2 x y v u _ I2 r1 r2 q2) fun c s3 ⟨z,H3,I3,r3,k,e,q3⟩=>?_) hm
 subst e
 cases r3
 exact Jo ⟨H3,I3,q3⟩
def Dz (K:Gh)(x:V)(H:Hp)(k:Bool):Prop :=
 match x with
 | .bL=>k=false
 | .bl b=>k=b
 | .int i=>k=(i != 0)
 | .str y=>y.length<=sizeLine/\k=((y.length:Int) != 0)
 | .j6 y=>y.size<=sizeLine/\k=((y.size:Int) != 0)
 | .ref p=>(∃xs,aY K H p xs/\k = !xs.isEmpty)\/(∃xs,ay K H p xs/\k = !xs.isEmpty)\/∃kvs,H p=some (.dK kvs)/\k = !kvs.isEmpty
 | _=>False
theorem xR {κ : Type}{kvs:List (κ×V)}{vs:List (κ×Value)}(r:KV kvs vs):(!vs.isEmpty) = !kvs.isEmpty:=by
 cases r <;> rfl
theorem qe {xs:List V}{its:List Value}(r:Vals xs its):(!its.toArray.isEmpty) = !xs.isEmpty:=by
 cases r <;> simp
theorem jr:(sizeLine:Nat)<2 ^ 63:=by rw [sizeLine_eq];decide
theorem DA:Fp X (fun x H Q=>∃k,Dz X.K x H k/\Q k H):=by
 intro pins s Gd H x v Q I rx h
 obtain⟨k,e,q⟩:=h
 have hl:=jr
 have hs:sizeLine=16777216:=sizeLine_eq
 cases x with
 | bL =>
  cases rx
  have e':k=false:=e
  subst e'
  exact truthy_none ⟨H,I,q⟩
 | bl b =>
  cases rx
  have e':k=b:=e
  subst e'
  exact Jo ⟨H,I,q⟩
 | int i =>
  obtain⟨t,rfl⟩:=rx
  have e':k=(i != 0):=e
  subst e'
  exact PySem.P.truthy_int ⟨H,I,q⟩
 | str y =>
  obtain⟨t,rfl⟩:=rx
  obtain⟨hy,e'⟩:y.length<=sizeLine/\k=((y.length:Int) != 0):=e
  subst e'
  exact PySem.P.truthy_str (by omega) ⟨H,I.tok _,q⟩
 | j6 y =>
  obtain⟨t,rfl⟩:=rx
  obtain⟨hy,e'⟩:y.size<=sizeLine/\k=((y.size:Int) != 0):=e
  subst e'
  exact PySem.W.truthy_bytes (by omega) ⟨H,I.tok _,q⟩
 | ref p =>
  cases rx
  have e':(∃xs,aY X.K H p xs/\k = !xs.isEmpty)\/(∃xs,ay X.K H p xs/\k = !xs.isEmpty)\/∃kvs,H p=some (.dK kvs)/\k = !kvs.isEmpty:=e
  rcases e' with ⟨xs,hx,e'⟩ | ⟨xs,hx,e'⟩ | ⟨kvs,hx,e'⟩
  ·subst e'
   obtain⟨its,r,pl,hz⟩:=I.list hx
   have hlen:=r.length
   exact wpAny_truthy_list pl.isList (by simp only [GF];omega) ⟨H,I.tok _,by rw [qe r];exact q⟩
  ·subst e'
   obtain⟨its,r,pl,hz⟩:=I.tuple hx
   have hlen:=r.length
   exact truthy_tuple pl (by simp only [GF];omega) ⟨H,I.tok _,by rw [qe r];exact q⟩
  ·subst e'
   obtain⟨hz,hS,vs,r,m⟩:kvs.length<=sizeLine/\(p == sysModules)=false/\∃vs,KV kvs vs/\s.heap.DictOf (aW X.prog X.w) p vs:=I.aZ p _ hx
   have hlen:kvs.length=vs.length:=Paired.length r
   exact wpAny_truthy_dict hS m (by omega) ⟨H,I.tok _,by rw [xR r];exact q⟩
 | _=>exact (show False from e).elim
theorem AB (ha:PE X a ta)(he:∀whole,isTrue a X.env whole=(do let v <-whole;standAt a.pos;holding [v] (truthy v))) :
  PT X a (fun Gd H Q=>ta Gd H fun x H'=>∃k,Dz X.K x H' k/\Q k H'):=by
 intro pins s Gd H Q I h
 exact isTrue_plain (bo (ha pins s Gd H _ I h) fun v s1 ⟨x,H1,I1,r1,q1⟩=>DA pins s1 Gd H1 x v Q I1 r1 q1) (he _)
theorem vals1 {x:V}{us:List Value}(r:Vals [x] us):∃u,us=[u]/\RelV x u:=by
 cases r with
 | cons r1 r2=>cases r2;exact⟨_,rfl,r1⟩
theorem vals2 {x y:V}{us:List Value}(r:Vals [x,y] us):∃u w',us=[u,w']/\RelV x u/\RelV y w':=by
 cases r with
 | cons r1 r2 =>
  cases r2 with
  | cons r3 r4=>cases r4;exact⟨_,_,rfl,r1,r3⟩
theorem sQ (hc:X.calm=true):eZ X (.builtin "max") (fun xs H Q=>∃i j,xs=[.int i,.int j]/\Q (.int (if j > i then j else i)) H):=by
 intro pins s Gd H xs us Q I r h
 obtain⟨i,j,rfl,q⟩:=h
 obtain⟨u,w',rfl,⟨t,rfl⟩,⟨t',rfl⟩⟩:=vals2 r
 refine max_two_ints (I.ok.hd hc) fun h' tk k=>⟨_,H,I.kept k,?_,q⟩
 by_cases hj:j > i
 ·rw [if_pos hj,if_pos hj];exact⟨_,rfl⟩
 ·rw [if_neg hj,if_neg hj];exact⟨_,rfl⟩
theorem m4 (hc:X.calm=true):eZ X (.builtin "min") (fun xs H Q=>∃i j,xs=[.int i,.int j]/\Q (.int (if j<i then j else i)) H):=by
 intro pins s Gd H xs us Q I r h
 obtain⟨i,j,rfl,q⟩:=h
 obtain⟨u,w',rfl,⟨t,rfl⟩,⟨t',rfl⟩⟩:=vals2 r
 refine min_two_ints (I.ok.hd hc) fun h' tk k=>⟨_,H,I.kept k,?_,q⟩
 by_cases hj:j<i
 ·rw [if_pos hj,if_pos hj];exact⟨_,rfl⟩
 ·rw [if_neg hj,if_neg hj];exact⟨_,rfl⟩
theorem sR:eZ X (.type "int") (fun xs H Q=>(∃i,xs=[.int i]/\Q (.int i) H)\/∃k,xs=[.bl k]/\Q (.int (if k then 1 else 0)) H):=by
 intro pins s Gd H xs us Q I r h
 rcases h with ⟨i,rfl,q⟩ | ⟨k,rfl,q⟩
 ·obtain⟨u,rfl,t,rfl⟩:=vals1 r
  exact call_int_int ⟨.int i,H,I,⟨_,rfl⟩,q⟩
 ·obtain⟨u,rfl,r1⟩:=vals1 r
  cases r1
  exact call_int_bool ⟨.int (if k then 1 else 0),H,I.tok _,⟨_,rfl⟩,q⟩
end
structure o7 (h:Heap) (x dx C:Addr) (mA:Str->Option Value):Prop where
 obj:h.get? x=some (Hn C dx)
 ns:h.Ns1 dx mA
 ne:dx≠x
theorem za {h:Heap}{dx:Addr}{mA:Str->Option Value}(n:h.Ns1 dx mA):∃od,h.get? dx=some od/\∀name,Ij name od=some (mA name):=by
 obtain⟨o,es,ep,ho,hd,hk,_,hm⟩:=n
 refine⟨o,ho,fun name=>?_⟩
 have e:=hm name
 unfold nsFind findBy at e
 rw [<-Array.find?_toList] at e
 unfold Ij
 rw [hd]
 dsimp only
 split
 ·rename_i y q
  rw [q] at e
  exact congrArg some e
 ·rename_i q
  rw [q] at e
  have a:es.toList.any (·.refKey)=false:=by
   rw [List.any_eq_false]
   intro y hy
   obtain⟨z,t,hkey⟩:=hk y (Array.mem_toList_iff.mp hy)
   simp [DictEntry.refKey,hkey]
  have a':¬es.toList.any (·.refKey)=true:=by rw [a];exact GR
  rw [if_neg a']
  exact congrArg some e
theorem o7.look {h:Heap}{x dx C:Addr}{mA:Str->Option Value}(I:o7 h x dx C mA):∃od,PySem.W.InstAt h x (Hn C dx) C (some od)/\∀name,Ij name od=some (mA name) :=
 let ⟨od,ho,hl⟩:=za I.ns
 ⟨od,⟨I.obj,rfl,rfl,ho⟩,hl⟩
section
variable {prog:Program}{w:World}{A:Around}{E:Value->Shared->Prop}{s:Shared}{K:Gh}{x dx C f:Addr}{mA:Str->Option Value}{name:Str}{v:Value}
theorem get_map {expr:Bool}{Q:Value->Shared->Prop}(X:K.In s.heap)(I:o7 s.heap x dx C mA)(hg:HE K C name=true)(hh:HQ K C=true)
  (ha:GG K (.ref C) name=some none) (hv:mA name=some v) (hv':PySem.W.handedIn v=true) (h:Q v { s with toks:=s.toks+1 }) :
  wpAny (model prog w) A (getAttr (.ref x) name expr) Q E s:=by
 obtain⟨od,J,hl⟩:=I.look
 exact PySem.W.get_value X J (IL hg).1 (PySem.W.findObj_own hh ha rfl (by rw [hl,hv])) hv' h
theorem AD {pl:Sem Bool}{Q:Value×List Value->Shared->Prop}(X:K.In s.heap)(I:o7 s.heap x dx C mA)(hg:HE K C name=true)
  (hf:GG K (.ref C) name=some (some (.ref f))) (ht:G6 K (.ref f)=true) (hv:mA name=none) (h:Q (.ref f,[.ref x]) s) :
  wpAny (model prog w) A (getMethod (.ref x) name pl) Q E s:=by
 obtain⟨od,J,hl⟩:=I.look
 exact PySem.W.method_fn X J (IL hg).1 (IL hg).2 hf (beq_iff_eq.mp ht) (by show (Ij name od).map (·.isSome)=some false;rw [hl,hv];rfl) h
theorem Cu {ns:List Str}{Q:Unit->Shared->Prop}(X:K.In s.heap)(I:o7 s.heap x dx C mA)
  (hs:GG K (.ref C) "__setattr__" = some (some (.builtin "object.__setattr__"))) (hp:Ik K C=true) (ht:PySem.W.takerIn K C name=some none) (hh:HQ K C=true)
  (hw:PySem.Within mA ns) (hsz:ns.length<=sizeLine)
  (h:∀h',o7 h' x dx C (fun y=>if y=name then some v else mA y)->GX dx s.heap h'->Q () { s with heap:=h',toks:=s.toks+2 }) :
  wpAny (model prog w) A (setAttr (.ref x) name v) Q E s:=by
 obtain⟨od,J,hl⟩:=I.look
 refine PySem.W.set_plain X J hs (PySem.W.osa_open (s:={ s with toks:=s.toks+1 }) (r:=none) X J hp ht fun b=>?_)
 obtain⟨cd,hc,hd'⟩:=PySem.W.any_some hh
 have hx:s.heap.get? x=some ⟨.ref C,some dx,.plain,#[]⟩:=I.obj
 refine IZ (I0 (IZ (IZ (wpAny_loadPart hx (IZ (PySem.W.Looks.here (s:={ s with toks:=s.toks+1 }) (PySem.W.looks_clsIn X hc) ?_))))))
 rw [hd']
 refine I0 (a:=some dx) (IZ (I0 (IZ ?_)))
 refine wpAny_nsSet1 (s:={ s with toks:=s.toks+1 }) I.ns fun h' hn2 hs2=>?_
 obtain⟨oD,esD,epD,hoD,hdD,hcD⟩:=hn2.count (PySem.Within.cons name v hw)
 refine IZ (wpAny_lookBehind hoD (by rw [hdD];exact pastItsLine_dict (Gy hcD (by rw [GZ];omega))) ?_)
 exact I0 (h _ ⟨(hs2.2 _ (Ne.symm I.ne)).trans I.obj,hn2,I.ne⟩ hs2)
theorem AE {R:Result->Shared->Prop}{vs:List Value}{kw:List (Str×Value)}(X:K.In s.heap)(hm:Il K C=true)
  (hi:GG K (.ref C) "__init__" = some (some (.ref f))) (hf:PySem.W.typeIn K (.ref f)=some (.type "function"))
  (h:codeAny (model prog w) (A.under (.builtin "type.__call__" ⟨.ref C::vs,kw⟩)) (.call (.ref f) ⟨.ref (s.heap.objs.size+1)::vs,kw⟩) (PySem.W.InitBack (s.heap.objs.size+1) R)
   { s with heap:=(s.heap.push Hg).push (Hn C s.heap.objs.size) }) :
  codeAny (model prog w) A (.call (.ref C) ⟨vs,kw⟩) R s:=by
 obtain⟨hh,g,d,t,os⟩:=s
 exact PySem.W.make_core (PySem.W.makes_of X hm) (PySem.W.looks_findIn X hi) (fun self=>PySem.W.bind_fn X self hf) (.inl rfl) h
end
def cF (f:Str)(v:V):List (Str×V)->List (Str×V)
 | []=>[(f,v)]
 | (g,x)::r=>if g=f then (g,v)::r else (g,x)::cF f v r
theorem oJ (f g:Str)(v:V):∀fs:List (Str×V),(cF f v fs).lookup g=if g=f then some v else fs.lookup g
 | []=>by
  show Hd g [(f,v)]=_
  by_cases h:g=f
  ·have hb:(g == f)=true:=beq_iff_eq.mpr h
   simp only [Hd,hb,if_pos h]
  ·have hb:(g == f)=false:=beq_eq_false_iff_ne.mpr h
   simp only [Hd,hb,if_neg h]
 | (k,x)::r=>by
  have ih:=oJ f g v r
  rw [show cF f v ((k,x)::r)=(if k=f then (k,v)::r else (k,x)::cF f v r) from rfl]
  by_cases hk:k=f
  ·rw [if_pos hk]
   by_cases h:g=k
   ·have hb:(g == k)=true:=beq_iff_eq.mpr h
    simp only [Hd,hb,if_pos (h.trans hk)]
   ·have hb:(g == k)=false:=beq_eq_false_iff_ne.mpr h
    simp only [Hd,hb,if_neg (fun e:g=f=>h (e.trans hk.symm))]
  ·rw [if_neg hk]
   by_cases h:g=k
   ·have hb:(g == k)=true:=beq_iff_eq.mpr h
    simp only [Hd,hb,if_neg (fun e:g=f=>hk (h.symm.trans e))]
   ·have hb:(g == k)=false:=beq_eq_false_iff_ne.mpr h
    simp only [Hd,hb]
    exact ih
theorem m5 (f:Str)(v:V):∀fs:List (Str×V),f∈(cF f v fs).map (·.1)/\∀g,g∈fs.map (·.1)->g∈(cF f v fs).map (·.1)
 | []=>⟨by simp [cF],fun g h=>by simp at h⟩
 | (k,x)::r=>by
  obtain⟨i1,i2⟩:=m5 f v r
  rw [show cF f v ((k,x)::r)=(if k=f then (k,v)::r else (k,x)::cF f v r) from rfl]
  by_cases hk:k=f
  ·rw [if_pos hk]
   subst hk
   exact⟨by simp,fun g h=>by simpa using h⟩
  ·rw [if_neg hk]
   refine⟨?_,fun g h=>?_⟩
   ·rw [GS]
    exact GC _ i1
   ·rw [GS] at h ⊢
    rcases Gu.mp h with e | e
    ·exact Gu.mpr (.inl e)
    ·exact GC _ (i2 g e)
theorem oK (f:Str)(v:V):∀fs:List (Str×V),(cF f v fs).length<=fs.length+1
 | []=>by simp [cF]
 | (k,x)::r=>by
  have ih:=oK f v r
  rw [show cF f v ((k,x)::r)=(if k=f then (k,v)::r else (k,x)::cF f v r) from rfl]
  by_cases hk:k=f
  ·rw [if_pos hk,GZ,GZ];omega
  ·rw [if_neg hk,GZ,GZ];omega
theorem gB.some_of {v:V}{o:Option Value}(r:gB (some v) o):∃u,o=some u/\RelV v u:=by
 cases o with
 | none=>exact (show False from r).elim
 | some u=>exact⟨u,rfl,r⟩
theorem gB.none_of {o:Option Value}(r:gB none o):o=none:=by
 cases o with
 | none=>rfl
 | some u=>exact (show False from r).elim
theorem zb {v:V}{u:Value}(r:RelV v u):PySem.W.handedIn u=true:=by
 cases v with
 | bL=>cases (show u=Value.none from r);rfl
 | bl b=>cases (show u=Value.bool b from r);rfl
 | int i=>obtain⟨t,e⟩:=(show ∃t,u=Value.int i t from r);cases e;rfl
 | str x=>obtain⟨t,e⟩:=(show ∃t,u=Value.str x t from r);cases e;rfl
 | j6 b=>obtain⟨t,e⟩:=(show ∃t,u=Value.bytes b t from r);cases e;rfl
 | yU b=>obtain⟨t,e⟩:=(show ∃t,u=Value.float b t from r);cases e;rfl
 | ref a=>cases (show u=Value.ref a from r);rfl
 | ty n=>cases (show u=Value.type n from r);rfl
section
variable {P:Program}{w:World}{H H':Hp}{h h':Heap}{a C dx:Addr}{fs fs':List (Str×V)}
theorem rC (aZ:eG P w H h)(e:H a=some (.ins C dx fs)):∃mA,o7 h a dx C mA/\(∀f,gB (fs.lookup f) (mA f))/\PySem.Within mA (fs.map (·.1))/\fs.length<=1000/\H dx=some (.own a):=by
 obtain⟨d,z,ne,ob,mA,n,r,q⟩:=(show cA P w H h a (.ins C dx fs) from aZ a _ e)
 exact⟨mA,⟨ob,n,ne⟩,r,q,z,d⟩
end
structure lG (K:Gh) (C:Addr):Prop where
 pg:HE K C Str.empty=true
 hd:HQ K C=true
 po:Ik K C=true
 sa:GG K (.ref C) "__setattr__" = some (some (.builtin "object.__setattr__"))
theorem lG.get {K:Gh}{C:Addr}(c:lG K C)(f:Str):HE K C f=true:=c.pg
def dQ (K:Gh)(C:Addr)(f:Str):Prop:=GG K (.ref C) f=some none
theorem dQ.EC {K:Gh}{C:Addr}{f:Str}(n:dQ K C f):PySem.W.takerIn K C f=some none:=by
 unfold PySem.W.takerIn
 rw [show GG K (.ref C) f=some none from n]
 rfl
structure Meth (K:Gh) (C:Addr) (m:Str) (f:Addr):Prop where
 at_:GG K (.ref C) m=some (some (.ref f))
 fn:G6 K (.ref f)=true
 kp:Gj K (.ref f)=true
section
variable {X:Cx}{pins:List (Addr×Obj)}{Gd : St}{H:Hp}{s:Shared}{a C dx:Addr}{fs:List (Str×V)}{f:Str}{v:V}{A:Around}{E:Value->Shared->Prop}
theorem qf {b:Bool}{Q:Value->Shared->Prop}(I:Inv X pins Gd H s)(e:H a=some (.ins C dx fs))(c:lG X.K C)(n:dQ X.K C f)(l:fs.lookup f=some v)
  (h:∀u s',Inv X pins Gd H s'->RelV v u->Q u s'):wpAny (model X.prog X.w) A (getAttr (.ref a) f b) Q E s:=by
 obtain⟨mA,O,r,_,_,_⟩:=rC I.aZ e
 obtain⟨u,hu,ru⟩:=gB.some_of (v:=v) (o:=mA f) (by rw [<-l];exact r f)
 exact get_map I.jn O (c.get f) c.hd n hu (zb ru) (h u _ (I.tok _) ru)
theorem qg {m:Str}{g:Addr}{pl:Sem Bool}{Q:Value×List Value->Shared->Prop}(I:Inv X pins Gd H s)(e:H a=some (.ins C dx fs))(c:lG X.K C)(k:Meth X.K C m g)(l:fs.lookup m=none)
  (h:Q (.ref g,[.ref a]) s):wpAny (model X.prog X.w) A (getMethod (.ref a) m pl) Q E s:=by
 obtain⟨mA,O,r,_,_,_⟩:=rC I.aZ e
 have hn:mA m=none:=gB.none_of (by rw [<-l];exact r m)
 exact AD I.jn O (c.get m) k.at_ k.fn hn h
theorem qh {y:V}{u:Value}{Q:Unit->Shared->Prop}(I:Inv X pins Gd H s)(e:H a=some (.ins C dx fs))(c:lG X.K C)(n:dQ X.K C f)(hl:fs.length<1000)(ry:RelV y u)
  (h:∀s',Inv X pins Gd (upd H a (.ins C dx (cF f y fs))) s'->Q () s'):wpAny (model X.prog X.w) A (setAttr (.ref a) f u) Q E s:=by
 obtain⟨mA,O,r,wi,_,ho⟩:=rC I.aZ e
 have hz:(fs.map (·.1)).length<=sizeLine:=by rw [Gg,sizeLine_eq];omega
 refine Cu I.jn O c.sa c.po n.EC c.hd wi hz fun h' O' sb=>h _ ?_
 have hd:∃o,h'.get? dx=some o:=let ⟨o,_,_,e',_⟩:=O'.ns;⟨o,e'⟩
 refine I.write (x:=a) (e:=dx) (by rw [e];exact True.intro) (.inr ho) (fun b q hb z=>(sb.2 b hb).trans z) hd ?_
 refine⟨by rw [ai O.ne];exact ho,?_,O.ne,O'.obj,_,O'.ns,fun g=>?_,fun g hg=>?_⟩
 ·have:=oK f y fs;omega
 ·show gB ((cF f y fs).lookup g) (if g=f then some u else mA g)
  rw [oJ]
  by_cases q:g=f
  ·rw [if_pos q,if_pos q];exact ry
  ·rw [if_neg q,if_neg q];exact r g
 ·by_cases q:g=f
  ·rw [q];exact (m5 f y fs).1
  ·refine (m5 f y fs).2 g (wi g fun z=>hg ?_)
   show (if g=f then some u else mA g)=none
   rw [if_neg q];exact z
theorem Inv.made (I:Inv X pins Gd H s):Inv X pins Gd (upd (upd H s.heap.objs.size (.own (s.heap.objs.size+1))) (s.heap.objs.size+1) (.ins C s.heap.objs.size []))
  { s with heap:=(s.heap.push Hg).push (Hn C s.heap.objs.size) }:=by
 have e1:(s.heap.push Hg).get? s.heap.objs.size=some Hg:=Gx s.heap rfl
 have e2:((s.heap.push Hg).push (Hn C s.heap.objs.size)).get? (s.heap.objs.size+1)=some (Hn C s.heap.objs.size):=by
  have:=Gx (s.heap.push Hg) (o:=Hn C s.heap.objs.size) rfl
  rwa [GU] at this
 have e3:(s.heap.push Hg).Ns s.heap.objs.size (fun _=>none):=⟨Hg,#[],_,e1,rfl,(fun e he=>absurd he (by simp)),fun _=>rfl⟩
 have I1:=I.laid (a:=s.heap.objs.size) (o:=.own (s.heap.objs.size+1)) (h':=s.heap.push Hg) (t':=s.toks) (fun b u q=>Gs _ q) (Gi _) ⟨_,e1⟩
 refine I1.laid (a:=s.heap.objs.size+1) (o:=.ins C s.heap.objs.size []) (t':=s.toks) (fun b u q=>Gs _ q) (Nat.le_of_eq (GU _ _)) ?_
 have ne:s.heap.objs.size≠s.heap.objs.size+1:=Gw (G8 _)
 refine⟨by rw [ai ne,ae],GK _,ne,e2,fun _=>none,(Heap.Ns1.of_empty e3).at fun o q=>Gs _ q,fun _=>True.intro,fun y hy=>absurd rfl hy⟩
theorem Cv {prog:Program}{w:World}{env:Env}{e:Expr}{f:Str}{pos:Pos}{s:Shared}{Q:Value->Shared->Prop}(hb:attributeBase e f env (eval e env)=eval e env)
  (h:wpAny (model prog w) A (eval e env) (fun o s₁=>wpAny (model prog w) A (getAttr o f true) Q E s₁) E s):wpAny (model prog w) A (eval (.Attribute e f pos) env) Q E s :=
 Attribute_any_ h (by rw [arm_eval_Attribute,hb])
end
def DB (K:Gh)(ta:TE)(f:Str):TE:=fun Gd H Q=>ta Gd H fun x H1=>∃a C dx fs v,x=.ref a/\H1 a=some (.ins C dx fs)/\lG K C/\dQ K C f/\fs.lookup f=some v/\Q v H1
def Ft (K:Gh)(ta tv:TE)(f:Str):TS:=fun D Gd H=>tv Gd H fun y H1=>ta Gd H1 fun x H2=>∃a C dx fs,x=.ref a/\H2 a=some (.ins C dx fs)/\lG K C/\dQ K C f/\fs.length<1000 /\
 D.nx Gd (upd H2 a (.ins C dx (cF f y fs)))
def DC (X:Cx)(op:Operator)(rd:V->V->Hp->VK->Prop):Prop :=
 ∀(pins:List (Addr×Obj)) (s:Shared) (Gd : St) (H:Hp) (x y:V) (u v:Value) (Q:VK),Inv X pins Gd H s->RelV x u->RelV y v->rd x y H Q->wpAny (model X.prog X.w) X.A (inplaceOp op u v) (EP X pins Gd Q) X.xe s
def Cw (K:Gh)(ta tv:TE)(rd:V->V->Hp->VK->Prop)(f:Str):TS:=fun D Gd H=>ta Gd H fun x H1=>∃a C dx fs v,x=.ref a/\H1 a=some (.ins C dx fs)/\lG K C/\dQ K C f/\fs.lookup f=some v /\
 tv Gd H1 fun y H2=>rd v y H2 fun z H3=>∃dx' fs',H3 a=some (.ins C dx' fs')/\fs'.length<1000/\D.nx Gd (upd H3 a (.ins C dx' (cF f z fs')))
section
variable {X:Cx}{o e value:Expr}{f:Str}{pos pos' tpos:Pos}{ta tv:TE}
theorem bH (he:PE X e ta)(hb:attributeBase e f X.env (eval e X.env)=eval e X.env):PE X (.Attribute e f pos) (DB X.K ta f):=by
 intro pins s Gd H Q I h
 refine Cv hb (bo (he pins s Gd H _ I h) fun u s1 ⟨x,H1,I1,rx,a,C,dx,fs,v,ex,ea,c,n,l,q⟩=>?_)
 subst ex
 obtain rfl:u=Value.ref a:=rx
 exact qf I1 ea c n l fun u' s2 I2 ru=>⟨v,H1,I2,ru,q⟩
theorem ft (ha:PE X o ta)(hv:PE X value tv)(hs:swapsWith value (some (.Attribute o f pos')) pos.line X.env=pure false):PS X (.Assign [.Attribute o f pos'] value pos) (Ft X.K ta tv f):=by
 intro pins s Gd H D I h
 refine plainObj_wpAny_Assign_Attribute (bo (hv pins s Gd H _ I h) fun u s1 ⟨y,H1,I1,ry,q⟩=>bo (ha pins s1 Gd H1 _ I1 q) fun ov s2 ⟨x,H2,I2,rx,a,C,dx,fs,ex,ea,c,n,l,q2⟩=>?_) hs
 subst ex
 obtain rfl:ov=Value.ref a:=rx
 exact qh I2 ea c n l ry fun s3 I3=>⟨Gd,_,I3,q2⟩
theorem sS {op:Operator}{rd:V->V->Hp->VK->Prop}(ha:PE X o ta)(hv:PE X value tv)(hop:DC X op rd):PS X (.AugAssign (.Attribute o f tpos) op value pos) (Cw X.K ta tv rd f):=by
 intro pins s Gd H D I h
 refine wpAny_AugAssign_AttributeAny (bo (ha pins s Gd H _ I h) fun ov s1 ⟨x,H1,I1,rx,a,C,dx,fs,v,ex,ea,c,n,l,q⟩=>?_)
 subst ex
 obtain rfl:ov=Value.ref a:=rx
 refine qf I1 ea c n l fun u s2 I2 ru=>bo (hv pins s2 Gd H1 _ I2 q) fun w3 s3 ⟨y,H2,I3,ry,q3⟩=>bo (hop pins s3 Gd H2 v y u w3 _ I3 ru ry q3) fun w4 s4 ⟨z,H3,I4,rz,dx',fs',ea',l',q4⟩=>?_
 exact qh I4 ea' c n l' rz fun s5 I5=>⟨Gd,_,I5,q4⟩
def Fu:V->V->Hp->VK->Prop:=fun x y H Q=>∃i j,x=.int i/\y=.int j/\Q (.int (i+j)) H
theorem zc:DC X .Add Fu:=by
 rintro pins s Gd H x y u v Q I rx ry ⟨i,j,rfl,rfl,q⟩
 obtain⟨t,rfl⟩:=(show ∃t,u=Value.int i t from rx)
 obtain⟨t',rfl⟩:=(show ∃t',v=Value.int j t' from ry)
 exact PyProof.Rows.iadd_int ⟨.int (i+j),H,I.tok _,⟨_,rfl⟩,q⟩
end
section
variable {X:Cx}{pins:List (Addr×Obj)}{Gd : St}{H:Hp}{s:Shared}{A:Around}{E:Value->Shared->Prop}{Q:Value->Shared->Prop}{c:Value}{b:Bool}
end
structure cY (k:Nat) (A:Around):Prop where
 hd:A.handled=none
 dp:A.depth+3*k+5<recursionLimit
 un:A.units+16*k+200<cLine
theorem cY.mono {j k:Nat}{A:Around}(r:cY k A)(h:j<=k):cY j A:=⟨r.hd,by have:=r.dp;omega,by have:=r.un;omega⟩
theorem cY.deeper {k:Nat}{A:Around}(r:cY (k+1) A)(env:Env):cY k (A.deeper env) :=
 ⟨r.hd,by have:=r.dp;show A.depth+1+3*k+5<_;omega,by have:=r.un;show A.units+3+16*k+200<_;omega⟩
theorem xS {A:Around} {C:Addr} {us:List Value} {kw:List (Str×Value)}:(A.under (.builtin "type.__call__" ⟨.ref C::us,kw⟩)).depth=A.depth+1:=by
 first | rfl | simp [Around.under,Code.weight,Code.isCreation,Code.isGuard,Code.isCaller,Code.frames,Code.isFrame,guardIds]
theorem xT {A:Around} {C:Addr} {us:List Value} {kw:List (Str×Value)}:(A.under (.builtin "type.__call__" ⟨.ref C::us,kw⟩)).units=A.units+1:=by
 first | rfl | simp [Around.under,Code.cUnits,Code.frames,Code.isFrame]
theorem cY.make {k:Nat} {A:Around} (r:cY (k+1) A) (C:Addr) (us:List Value) (kw:List (Str×Value)):cY k (A.under (.builtin "type.__call__" ⟨.ref C::us,kw⟩)) :=
 ⟨r.hd,by have:=r.dp;rw [xS];omega,by have:=r.un;rw [xT];omega⟩
theorem cY.depth {k:Nat}{A:Around}(r:cY k A):A.depth<recursionLimit:=by have:=r.dp;omega
theorem cY.units {k:Nat}{A:Around}(r:cY k A):A.units+64<cLine:=by have:=r.un;omega
def uJ:TA:=fun _ H Q=>Q [] H
def kK (ta:TE)(tr:TA):TA:=fun Gd H Q=>ta Gd H fun x H1=>tr Gd H1 fun xs H2=>Q (x::xs) H2
section
variable {X:Cx}{e:Expr}{es:List Expr}{te:TE}{t:TA}{pos:Pos}
theorem af:PA X [] uJ:=fun _ _ _ _ H Q I h=>Calls.spliced_nil ⟨[],H,I,.nil,h⟩
theorem aa (ha:PE X e te)(hr:PA X es t)(hs:starEach (e::es) X.env=(false,eval e X.env)::starEach es X.env:=by rfl):PA X (e::es) (kK te t):=by
 intro pos pins s Gd H Q I h
 rw [hs]
 show wpAny _ _ (spliced ((false,eval e X.env)::backTo pos (starEach es X.env))) _ _ s
 refine Calls.spliced_cons (bo (ha pins s Gd H _ I h) fun u s1 ⟨x,H1,I1,r1,q1⟩=>?_)
 exact bo (hr pos pins s1 Gd H1 _ I1 q1) fun us s2 ⟨xs,H2,I2,r2,q2⟩=>⟨x::xs,H2,I2,.cons r1 r2,q2⟩
def Fv (t:TA):TE:=fun Gd H Q=>t Gd H fun xs H1=>xs.length<=sizeLine/\∀p,H1 p=none->Q (.ref p) (upd H1 p (.tup xs))
def Fw (t:TA):TE:=fun Gd H Q=>t Gd H fun xs H1=>xs.length<=sizeLine/\∀p,H1 p=none->Q (.ref p) (upd H1 p (.lst xs))
theorem bx {x1}(h:PA X es t):PE X (.Tuple es x1 pos) (Fv t):=by
 intro pins s Gd H Q I hq
 refine wpAny_Tuple_spliced (bo (h pos pins s Gd H _ I hq) fun us s1 ⟨xs,H1,I1,r,z,q⟩=>⟨by rw [<-r.length];exact z,?_⟩)
 have hf:H1 s1.heap.objs.size=none:=I1.aZ.fresh (Gi _)
 refine⟨.ref s1.heap.objs.size,upd H1 s1.heap.objs.size (.tup xs),I1.laid (t':=s1.toks) (fun b u e=>Gs _ e) (Gi _) ?_,rfl,q _ hf⟩
 exact⟨z,us,r,⟨_,Gx _ rfl,rfl,_,rfl,rfl⟩⟩
theorem cP (h:PA X es t):PE X (.List es pos) (Fw t):=by
 intro pins s Gd H Q I hq
 refine wpAny_List_spliced (bo (h pos pins s Gd H _ I hq) fun us s1 ⟨xs,H1,I1,r,z,q⟩=>⟨by rw [<-r.length];exact z,?_⟩)
 have hf:H1 s1.heap.objs.size=none:=I1.aZ.fresh (Gi _)
 refine⟨.ref s1.heap.objs.size,upd H1 s1.heap.objs.size (.lst xs),I1.laid (t':=s1.toks) (fun b u e=>Gs _ e) (Gi _) ?_,rfl,q _ hf⟩
 exact⟨z,us,0,r,Gx _ rfl⟩
end
abbrev Sp:=List V->Hp->VK->XK->Prop
abbrev m6:=List Env->Hp->Shared->XK->Value->Shared->Prop
structure o8 (P:Program) (w:World) (K:Gh) (mg:Str->Option Value) (base:Heap) (A:Around) (outer:List Env) (s:Shared) (H:Hp):Prop where
 frames:A.frames=some outer
 mod:Mod K mg base
 bs:∀b o,base.get? b=some o->s.heap.get? b=some o/\H b=none
 p8:base.objs.size<=s.heap.objs.size
 jD:s.heap.FunFrames base outer
 uB:∀b∈mX outer,H b=none
 aZ:eG P w H s.heap
 bare:AllBare s.gens
def CE (outer:List Env)(P:Program)(w:World)(H:Hp)(s:Shared)(Q:VK)(u:Value)(s':Shared):Prop :=
 ∃v H',s'.os=s.os/\AllBare s'.gens/\Un (mX outer) [] H H' s.heap s'.heap/\eG P w H' s'.heap/\RelV v u/\Q v H'
def CR (CX:m6)(outer:List Env)(P:Program)(w:World)(H:Hp)(s:Shared)(Q:VK)(E:XK)(r:Result)(s':Shared):Prop :=
 match r with
 | .ok (.ret u)=>CE outer P w H s Q u s'
 | .ok _=>False
 | .error e=>CX outer H s E e s'
structure bh (P:Program) (w:World) (K:Gh) (mg:Str->Option Value) (base:Heap) (CX:m6) (k:Nat) (f:Addr) (fd:FuncData) (ps:List Str) (sp:Sp):Prop where
 len:∀vs H Q E,sp vs H Q E->vs.length=ps.length
 run:∀(A:Around) (outer:List Env) (s:Shared) (H:Hp) (args:Args) (us:List Value) (vs:List V) (Q:VK) (E:XK),cY k A->o8 P w K mg base A outer s H->BindsTo s fd args (ps.zip us)->Vals vs us->sp vs H Q E ->
  codeAny (model P w) A (.call (.ref f) args) (CR CX outer P w H s Q E) s
theorem o8.make {P:Program}{w:World}{K:Gh}{mg:Str->Option Value}{base:Heap}{A:Around}{outer:List Env}{s:Shared}{H:Hp}(e:o8 P w K mg base A outer s H)(C:Addr)(us:List Value)(kw:List (Str×Value)) :
  o8 P w K mg base (A.under (.builtin "type.__call__" ⟨.ref C::us,kw⟩)) outer s H:=⟨by first | exact e.frames | (simpa [Around.under,Code.envs,Code.isFrame,pushEnvs] using e.frames),e.mod,e.bs,e.p8,e.jD,e.uB,e.aZ,e.bare⟩
section
variable {X:Cx}{pins:List (Addr×Obj)}{Gd : St}{H:Hp}{s s':Shared}
theorem Inv.DD (I:Inv X pins Gd H s):o8 X.prog X.w X.K X.mg X.base X.A X.stack s H :=
 ⟨I.ok.frames,I.ok.mod,I.bs,Gy I.ok.p8 I.sz,I.stack,I.wI,I.aZ,I.bare⟩
theorem Inv.after {Q:VK}{u:Value}(I:Inv X pins Gd H s)(h:CE X.stack X.prog X.w H s Q u s'):EP X pins Gd Q u s':=by
 obtain⟨v,H',os,bare,un,aZ,r,q⟩:=h
 obtain⟨hh,g,d,t,os'⟩:=s'
 obtain rfl:os' = s.os:=os
 exact⟨v,H',I.call (h':=hh) (g':=g) (d':=d) (t':=t) (ch:=[]) un aZ bare (fun b z=>absurd z (by simp)),r,q⟩
end
def BZ (sp:Sp)(dvs:List V)(E:XK)(t:TA):TE:=fun Gd H Q=>t Gd H fun vs H1=>sp (vs++dvs) H1 Q E
def uq (C:Addr)(m:Str)(sp:Sp)(dvs:List V)(E:XK)(ta:TE)(t:TA):TE:=fun Gd H Q=>ta Gd H fun x H1=>∃a dx fs,x=.ref a/\H1 a=some (.ins C dx fs)/\fs.lookup m=none /\
 t Gd H1 fun vs H2=>sp (x::(vs++dvs)) H2 Q E
def B0 (C:Addr)(sp:Sp)(dvs:List V)(E:XK)(t:TA):TE:=fun Gd H Q=>t Gd H fun vs H1=>∀x dx,H1 x=none->H1 dx=none->dx≠x ->
 sp (.ref x::(vs++dvs)) (upd (upd H1 dx (.own x)) x (.ins C dx [])) (fun v H2=>v=.bL/\Q (.ref x) H2) E
def Binds (K:Gh)(fd:FuncData)(ps:List Str)(ds:List Value):Prop :=
 ∀(s:Shared) (us:List Value),K.In s.heap->(us++ds).length=ps.length->BindsTo s fd ⟨us,[]⟩ (ps.zip (us++ds))
theorem Binds.all {K:Gh}{fd:FuncData}{ps:List Str}(h:∀us:List Value,us.length=ps.length->bindArgs fd ⟨us,[]⟩=pure (ps.zip us)):Binds K fd ps []:=fun s us _ hl=>by
 rw [HF] at hl ⊢
 exact .of_eq (h us hl)
def Passes (CX:m6)(X:Cx)(E:XK):Prop:=∀(pins:List (Addr×Obj)) (Gd : St) (H:Hp) (s:Shared) (e:Value) (s':Shared),Inv X pins Gd H s->CX X.stack H s E e s'->X.xe e s'
section
variable {X:Cx}{CX:m6}{k:Nat}{f C:Addr}{fd:FuncData}{ps:List Str}{sp:Sp}{dvs:List V}{ds:List Value}{E:XK}{x m:Str}{p pos apos:Pos}{e o:Expr}{es:List Expr}{ta:TE}{t:TA}
theorem uK {pins:List (Addr×Obj)}{Gd : St}{H:Hp}{s:Shared}{Q:VK}{us:List Value}{vs:List V}(F:bh X.prog X.w X.K X.mg X.base CX k f fd ps sp)(hr:cY k X.A)(hb:Binds X.K fd ps ds)(hd:Vals dvs ds)(hx:Passes CX X E)
  (I:Inv X pins Gd H s) (r:Vals vs us) (h:sp (vs++dvs) H Q E):wpAny (model X.prog X.w) X.A (call (.ref f) us) (EP X pins Gd Q) X.xe s:=by
 have r2:Vals (vs++dvs) (us++ds):=r.append hd
 have hl:(us++ds).length=ps.length:=by rw [<-r2.length];exact F.len _ _ _ _ h
 refine wpAny_call (Jj (F.run X.A X.stack s H ⟨us,[]⟩ (us++ds) (vs++dvs) Q E hr I.DD (hb s us I.jn hl) r2 h) fun r s' hq=>?_)
 cases r with
 | error e=>exact hx pins Gd H s e s' I hq
 | ok fl =>
  cases fl with
  | ret u=>exact I.after hq
  | next=>exact False.elim hq
  | brk=>exact False.elim hq
  | cont=>exact False.elim hq
theorem Cy (F:bh X.prog X.w X.K X.mg X.base CX k f fd ps sp)(hr:cY k X.A)(hg:Gl X x)(hm:X.mg x=some (.ref f))(hk:Gj X.K (.ref f)=true)(hb:Binds X.K fd ps ds)(hd:Vals dvs ds)(hx:Passes CX X E)
  (ha:PA X (e::es) t) (hdb:(x == ("__debug__" : Str))=false:=by decide) (he:starEach (e::es) X.env=(false,eval e X.env)::starEach es X.env:=by rfl) (hpl:(backTo pos (starEach es X.env)).any (·.1)=false:=by rfl) :
  PE X (.Call (.Name x p) (e::es) [] pos) (BZ sp dvs E t):=by
 intro pins s Gd H Q I h
 refine Js (rn I hg hm ?_ hdb)
 refine IM (h₀:=X.base) I.ok.mod.lC hk (bo (ha pos pins s Gd H _ I h) fun us s1 ⟨vs,H1,I1,r,q⟩=>⟨I1.jn,?_⟩) he hpl
 exact uK F hr hb hd hx I1 r q
theorem Cz {pl:Sem Bool}(he:PE X o ta)(c:lG X.K C)(hm:Meth X.K C m f)(F:bh X.prog X.w X.K X.mg X.base CX k f fd ps sp)(hr:cY k X.A)(hb:Binds X.K fd ps ds)(hd:Vals dvs ds)(hx:Passes CX X E)(ha:PA X (e::es) t)
  (hst:starEach (e::es) X.env=(false,eval e X.env)::starEach es X.env:=by rfl) (hpl:(backTo pos (starEach es X.env)).any (·.1)=false:=by rfl)
  (ht:eval (.Call (.Attribute o m apos) (e::es) [] pos) X.env=(do
   let ov <-eval o X.env
   standAt apos.atName
   let (f,first) <-holding [ov] (getMethod ov m pl)
   callWith pos f first (backTo pos (starEach (e::es) X.env)) (backToKw pos (keywordEach [] X.env))):=by rfl) :
  PE X (.Call (.Attribute o m apos) (e::es) [] pos) (uq C m sp dvs E ta t):=by
 intro pins s Gd H Q I h
 refine PySem.W.methodCall_KW (pl:=pl) (bo (he pins s Gd H _ I h) fun u s1 ⟨x,H1,I1,rx,a,dx,fs,ex,ea,l,q⟩=>?_) ht
 subst ex
 obtain rfl:u=Value.ref a:=rx
 refine qg I1 ea c hm l ?_
 refine IM (first:=[.ref a]) (h₀:=X.base) I.ok.mod.lC hm.kp (bo (ha pos pins s1 Gd H1 _ I1 q) fun us s2 ⟨vs,H2,I2,r,q2⟩=>⟨I2.jn,?_⟩) hst hpl
 exact uK (us:=.ref a::us) (vs:=.ref a::vs) F hr hb hd hx I2 (.cons rfl r) q2
theorem AF {pl:Sem Bool}(he:PE X o ta)(c:lG X.K C)(hm:Meth X.K C m f)(F:bh X.prog X.w X.K X.mg X.base CX k f fd ps sp)(hr:cY k X.A)(hb:Binds X.K fd ps ds)(hd:Vals dvs ds)(hx:Passes CX X E)
  (ht:eval (.Call (.Attribute o m apos) [] [] pos) X.env=(do
   let ov <-eval o X.env
   standAt apos.atName
   let (f,first) <-holding [ov] (getMethod ov m pl)
   callWith pos f first (backTo pos (starEach [] X.env)) (backToKw pos (keywordEach [] X.env))):=by rfl) :
  PE X (.Call (.Attribute o m apos) [] [] pos) (uq C m sp dvs E ta uJ):=by
 intro pins s Gd H Q I h
 refine PySem.W.methodCall_KW (pl:=pl) (bo (he pins s Gd H _ I h) fun u s1 ⟨x,H1,I1,rx,a,dx,fs,ex,ea,l,q⟩=>?_) ht
 subst ex
 obtain rfl:u=Value.ref a:=rx
 refine qg I1 ea c hm l ?_
 exact PySem.W.callWith_K0 (first:=[.ref a]) I1.jn hm.kp (uK (us:=[.ref a]) (vs:=[.ref a]) F hr hb hd hx I1 (.cons rfl .nil) q)
structure Mk (K:Gh) (C f:Addr):Prop where
 makes:Il K C=true
 init:GG K (.ref C) "__init__" = some (some (.ref f))
 fn:G6 K (.ref f)=true
 kp:Gj K (.ref C)=true
theorem AG {pins:List (Addr×Obj)}{Gd : St}{H:Hp}{s:Shared}{Q:VK}{us:List Value}{vs:List V}(M:Mk X.K C f)(F:bh X.prog X.w X.K X.mg X.base CX k f fd ps sp)(hr:cY (k+1) X.A)(hb:Binds X.K fd ps ds)(hd:Vals dvs ds)
  (hx:Passes CX X E) (I:Inv X pins Gd H s) (r:Vals vs us)
  (h:∀x dx,H x=none->H dx=none->dx≠x->sp (.ref x::(vs++dvs)) (upd (upd H dx (.own x)) x (.ins C dx [])) (fun v H2=>v=.bL/\Q (.ref x) H2) E) :
  wpAny (model X.prog X.w) X.A (call (.ref C) us) (EP X pins Gd Q) X.xe s:=by
 have hq:=h (s.heap.objs.size+1) s.heap.objs.size (I.aZ.fresh (Hh _)) (I.aZ.fresh (Gi _)) (Gw (G8 _))
 have I2:=Inv.made (C:=C) I
 have r2:Vals (V.ref (s.heap.objs.size+1)::(vs++dvs)) (Value.ref (s.heap.objs.size+1)::(us++ds)):=.cons rfl (r.append hd)
 have hl:(Value.ref (s.heap.objs.size+1)::us++ds).length=ps.length:=by
  have e:=r2.length
  rw [F.len _ _ _ _ hq] at e
  exact e.symm
 refine wpAny_call (AE (f:=f) I.jn M.makes M.init (beq_iff_eq.mp M.fn) (Jj (F.run _ X.stack _ _ ⟨Value.ref (s.heap.objs.size+1)::us,[]⟩ (Value.ref (s.heap.objs.size+1)::(us++ds)) _ _ E (hr.make C us [])
  (I2.DD.make C us []) (hb _ (Value.ref (s.heap.objs.size+1)::us) I2.jn hl) r2 hq) fun r s' hq'=>?_))
 cases r with
 | error e=>exact hx pins Gd _ _ e s' I2 hq'
 | ok fl =>
  cases fl with
  | ret u =>
   obtain⟨v,H',I3,rv,ev,q3⟩:=I2.after hq'
   subst ev
   exact⟨rv,⟨V.ref (s.heap.objs.size+1),H',I3,rfl,q3⟩⟩
  | next=>exact False.elim hq'
  | brk=>exact False.elim hq'
  | cont=>exact False.elim hq'
theorem CA (M:Mk X.K C f)(F:bh X.prog X.w X.K X.mg X.base CX k f fd ps sp)(hr:cY (k+1) X.A)(hg:Gl X x)(hm:X.mg x=some (.ref C))(hb:Binds X.K fd ps ds)(hd:Vals dvs ds)(hx:Passes CX X E)
  (ha:PA X (e::es) t) (hdb:(x == ("__debug__" : Str))=false:=by decide) (he:starEach (e::es) X.env=(false,eval e X.env)::starEach es X.env:=by rfl) (hpl:(backTo pos (starEach es X.env)).any (·.1)=false:=by rfl) :
  PE X (.Call (.Name x p) (e::es) [] pos) (B0 C sp dvs E t):=by
 intro pins s Gd H Q I h
 refine Js (rn I hg hm ?_ hdb)
 refine IM (h₀:=X.base) I.ok.mod.lC M.kp (bo (ha pos pins s Gd H _ I h) fun us s1 ⟨vs,H1,I1,r,q⟩=>⟨I1.jn,?_⟩) he hpl
 exact AG M F hr hb hd hx I1 r q
end
section
variable {X:Cx}{CX:m6}{k:Nat}{f C:Addr}{fd:FuncData}{ps ks:List Str}{sp:Sp}{E:XK}{x m:Str}{p pos apos kpos:Pos}{e o:Expr}{es:List Expr}{kws:List Keyword}{te ta:TE}{t tk:TA}{nm:Option Str}
variable {g:List Value->List Value->List Value}{gV:List V->List V->List V}
end
structure aO (N P:List Str) (sc:Scope):Prop where
 kind:sc.kind=.function
 co:sc.isCoroutine=false
 gen:sc.isGenerator=false
 nd:N.Nodup
 pre:N.take P.length=P
 par:∀x∈P,sc.names.lookup x=some .local\/sc.names.lookup x=some .cell
 DE:∀y∈sc.names,y.2≠.free
theorem sT {kindOf:Str->Option NameKind}{x:Str}:∀{binds:List (Str×Value)} {m:Str->Option Value},(∀v,(x,v)∉binds)->bindL kindOf binds m x=m x
 | [],_,_=>rfl
 | (n,v)::r,m,h=>by
  unfold bindL
  rw [sT fun w hw=>h w (GC _ hw)]
  split
  ·have:x≠n:=by rintro rfl;exact h v GB
   simp [this]
  ·rfl
theorem sU {kindOf:Str->Option NameKind}{x:Str}:∀{binds:List (Str×Value)} {m:Str->Option Value},(∀v,(x,v)∉binds)->bindC kindOf binds m x=m x
 | [],_,_=>rfl
 | (n,v)::r,m,h=>by
  unfold bindC
  rw [sU fun w hw=>h w (GC _ hw)]
  split
  ·rfl
  ·have:x≠n:=by rintro rfl;exact h v GB
   simp [this]
theorem sV {kindOf:Str->Option NameKind}{x:Str}{v:Value}:∀{P:List Str} {vs:List Value} {i:Nat} {m:Str->Option Value},P.Nodup->P[i]?=some x->vs[i]?=some v->kindOf x=some .local ->
  bindL kindOf (P.zip vs) m x=some v
 | [],_,_,_,_,h,_,_=>by simp at h
 | _::_,[],_,_,_,_,h,_=>by simp at h
 | p::P,w::vs,0,m,nd,h1,h2,hk=>by
  simp at h1 h2;subst h1;subst h2
  show bindL kindOf ((p,w)::P.zip vs) m p=_
  unfold bindL
  rw [sT fun v hv=>(Hr.mp nd).1 (Im hv).1,if_pos hk]
  simp
 | p::P,w::vs,i+1,m,nd,h1,h2,hk=>by
  show bindL kindOf ((p,w)::P.zip vs) m x=_
  unfold bindL
  exact sV (i:=i) (Hr.mp nd).2 (by simpa using h1) (by simpa using h2) hk
theorem sW {kindOf:Str->Option NameKind}{x:Str}{v:Value}:∀{P:List Str} {vs:List Value} {i:Nat} {m:Str->Option Value},P.Nodup->P[i]?=some x->vs[i]?=some v->kindOf x≠some .local ->
  bindC kindOf (P.zip vs) m x=some v
 | [],_,_,_,_,h,_,_=>by simp at h
 | _::_,[],_,_,_,_,h,_=>by simp at h
 | p::P,w::vs,0,m,nd,h1,h2,hk=>by
  simp at h1 h2;subst h1;subst h2
  show bindC kindOf ((p,w)::P.zip vs) m p=_
  unfold bindC
  rw [sU fun v hv=>(Hr.mp nd).1 (Im hv).1,if_neg hk]
  simp
 | p::P,w::vs,i+1,m,nd,h1,h2,hk=>by
  show bindC kindOf ((p,w)::P.zip vs) m x=_
  unfold bindC
  exact sW (i:=i) (Hr.mp nd).2 (by simpa using h1) (by simpa using h2) hk
def start (N:List Str)(vs:List V):St:=vs.map some++Io (N.length-vs.length) none
def o9 (CX:m6)(P:Program)(w:World)(K:Gh)(mg:Str->Option Value)(base:Heap)(N:List Str)(qual:Str)(scope:Scope)(f:Addr)(cd:Value)(A:Around)(outer:List Env)(s:Shared)(H:Hp)(E:XK):Cx where
 prog:=P
 w:=w
 K:=K
 mg:=mg
 base:=base
 A:=A.deeper (envOfC qual scope s.heap.objs.size f cd)
 N:=N
 eU:=s
 uz:=H
 env:=envOfC qual scope s.heap.objs.size f cd
 outer:=outer
 stack:=envOfC qual scope s.heap.objs.size f cd::outer
 ex:=[]
 calm:=true
 fn:=fun _=>true
 pn:=[]
 xe:=fun e s'=>wpAny (model P w) (A.deeper (envOfC qual scope s.heap.objs.size f cd)) (leaving (envOfC qual scope s.heap.objs.size f cd) e) (fun _ s''=>CX outer H s E e s'') (fun e' s''=>CX outer H s E e' s'') s'
theorem uL {sc:Scope}{n:Nat}{x:Str}(h:sc.names.lookup x=some .cell):∃c,(cellsFrom n sc.names []).lookup x=some c:=by
 have q:=PySem.W.cellsFrom_some sc.names n [] (.inl h)
 exact Option.isSome_iff_exists.mp q
theorem zd {CX:m6}{P:Program}{w:World}{K:Gh}{mg:Str->Option Value}{base:Heap}{N ps:List Str}{qual:Str}{scope:Scope}{f:Addr}{cd:Value}{A:Around}{outer:List Env}{s s1:Shared}{H:Hp}{E:XK}{us:List Value}{vs:List V}
  (S:aO N ps scope) (hd:A.handled=none) (e0:o8 P w K mg base A outer s H) (hl:vs.length=ps.length) (r:Vals vs us)
  (x:InCallC s s.heap.objs.size (bindL (envOfC qual scope s.heap.objs.size f cd).kindOf (ps.zip us) fun _=>none) (cellsFrom (s.heap.objs.size+1) scope.names []) (bindC (envOfC qual scope s.heap.objs.size f cd).kindOf (ps.zip us) fun _=>none) s1) :
  Inv (o9 CX P w K mg base N qual scope f cd A outer s H E) [] (start N vs) H s1:=by
 have hpl:ps.length<=N.length:=by have:=congrArg Hx S.pre;rw [G9] at this;omega
 obtain⟨h1,tk,rfl,hk⟩:=x.done
 have noA:∀b:Addr,b∉(o9 CX P w K mg base N qual scope f cd A outer s H E).ex:=fun b z=>absurd (show b∈([]:List Addr) from z) (by simp)
 refine⟨⟨e0.mod,S.kind,rfl,rfl,Gi _,fun y z c h1 h2=>?_,fun y hy=>?_,fun y c _ h=>?_,fun _=>hd,Around.frames_deeper e0.frames,.inr ⟨rfl,rfl⟩,fun b z=>absurd z (noA b),e0.bs,e0.p8,fun b _ _=>noA b,fun b z=>absurd z (noA b),e0.jD,e0.uB⟩,
  rfl,e0.bare,Un.kept hk,⟨_,x.toInCall.ns,fun i y v h1 h2 h3=>?_⟩,fun y c h=>⟨_,x.cell y c h⟩,e0.aZ.fresh (Gi _),fun y c h=>?_,fun p hp=>absurd (show p∈([]:List (Addr×Obj)) from hp) (by simp),e0.aZ.kept hk,?_⟩
 ·exact name_of_addr x.apart (PySem.mem_of_lookup h1) (PySem.mem_of_lookup h2)
 ·have hy:scope.names.lookup y=some .cell\/scope.names.lookup y=some .free:=hy
  rcases hy with hy | hy
  ·exact uL hy
  ·exact absurd rfl (S.DE _ (PySem.mem_of_lookup hy))
 ·exact G3 (x.above y c (PySem.mem_of_lookup h))
 ·have hi:i<vs.length:=by
   unfold start at h2
   by_cases hi:i<vs.length
   ·exact hi
   ·rw [HR (by simpa using hi)] at h2
    rw [List.getElem?_replicate] at h2
    split at h2 <;> cases h2
  have ha:vs[i]?=some v:=by
   unfold start at h2
   rw [Hf (by simpa using hi),GI] at h2
   cases e:vs[i]? with
   | none=>rw [e] at h2;cases h2
   | some a=>rw [e] at h2;cases h2;rfl
  obtain⟨u,hu,rv⟩:=r.get ha
  have hp:ps[i]?=some y:=by
   rw [<-S.pre,List.getElem?_take_of_lt (by omega)];exact h1
  have ndP:ps.Nodup:=by rw [<-S.pre];exact S.nd.sublist (List.take_sublist _ _)
  refine⟨u,rv,?_⟩
  rcases S.par y (GJ hp) with k | k
  ·exact .inl ⟨k,sV ndP hp hu k⟩
  ·obtain⟨c,e⟩:=uL (n:=s.heap.objs.size+1) k
   refine .inr ⟨.inl k,c,e,?_⟩
   have q:=x.cell y c e
   rw [sW ndP hp hu (by show scope.names.lookup y≠_;rw [k];decide)] at q
   exact q
 ·exact e0.aZ.fresh (G3 (x.above y c (PySem.mem_of_lookup h)))
 ·unfold start
  show _=N.length
  rw [Gr,Gg,Ip]
  omega
theorem B7 {CX:m6}{P:Program}{w:World}{K:Gh}{mg:Str->Option Value}{base:Heap}{k:Nat}{f:Addr}{name qual:Str}{params:Arguments}{body:List Stmt}{scope:Scope}{dV kV doc pm cdv ct oc:Value}{an od:Option Addr}
  {osl:Array (Option Value)} {N ps:List Str} {sp:Sp} (lk:K.lookup f=some ⟨oc,od,.func (Gk name qual params body scope dV kV doc pm an cdv ct),osl⟩) (hcd:Gm K cdv qual=true) (S:aO N ps scope)
  (len:∀vs H Q E,sp vs H Q E->vs.length=ps.length)
  (hbody:∀(A:Around) (outer:List Env) (s:Shared) (H:Hp) (vs:List V) (Q:VK) (E:XK),cY k (A.deeper (envOfC qual scope s.heap.objs.size f cdv))->sp vs H Q E ->
   ∃t,kJ (o9 CX P w K mg base N qual scope f cdv A outer s H E) body t/\t { nx:=fun _ H'=>Q .bL H',rt:=Q } (start N vs) H) :
  bh P w K mg base CX (k+1) f (Gk name qual params body scope dV kV doc pm an cdv ct) ps sp:=by
 refine⟨len,fun A outer s H args us vs Q E hr e0 hb r hsp=>?_⟩
 have hl:=len _ _ _ _ hsp
 have KX:K.In s.heap:=e0.mod.lC.keeps fun b o e=>(e0.bs b o e).1
 have lim:s.heap.NoLimit:=e0.mod.nolimit.keeps fun b o e=>(e0.bs b o e).1
 have hkind:∀y∈ps.zip us,scope.names.lookup y.1=some .local\/(scope.names.lookup y.1=some .cell/\((cellsFrom (s.heap.objs.size+1) scope.names []).lookup y.1).isSome=true):=fun ⟨n,v⟩ hy=>by
  rcases S.par n (Im hy).1 with q | q
  ·exact .inl q
  ·exact .inr ⟨q,PySem.W.cellsFrom_some _ _ _ (.inl q)⟩
 refine codeAny_call_function hr.depth (KX _ _ lk) rfl S.co S.gen rfl (PySem.W.codeRec_of KX hcd) (hb _ _ _ _ ?_)
 refine wpAny_newFunctionEnv_cells S.kind hkind fun env he s1 x=>?_
 subst he
 refine⟨lim.keeps x.toInCall.keep,codeAny_func ?_⟩
 obtain⟨t,ht,hq⟩:=hbody A outer s H vs Q E (hr.deeper _) hsp
 have I:Inv (o9 CX P w K mg base N qual scope f cdv A outer s H E) [] (start N vs) H s1:=zd S hr.hd e0 hl r x
 refine Ja (ht [] s1 (start N vs) H _ I hq) (fun fl s' hs=>?_) fun e s' hs=>hs
 have fin:∀{σ':St} {H':Hp} {v:V} {u:Value},Inv (o9 CX P w K mg base N qual scope f cdv A outer s H E) [] σ' H' s'->RelV v u->Q v H'->CE outer P w H s Q u s' :=
  fun {σ' H' v u} J rv q=>⟨v,H',J.os,J.bare,J.base,J.aZ,rv,q⟩
 cases fl with
 | ret u =>
  obtain⟨v,σ',H',J,rv,q⟩:=hs
  exact fin J rv q
 | next =>
  obtain⟨σ',H',J,q⟩:=hs
  exact fin (v:=V.bL) (u:=Value.none) J rfl q
 | brk =>
  obtain⟨_,_,_,q⟩:=hs
  exact False.elim q
 | cont =>
  obtain⟨_,_,_,q⟩:=hs
  exact False.elim q
section
variable {X:Cx}{x:Str}{p pos:Pos}{e:Expr}{es:List Expr}{t:TA}{id T:String}{r:List V->Hp->VK->Prop}
def DF (r:List V->Hp->VK->Prop)(t:TA):TE:=fun Gd H Q=>t Gd H fun vs H1=>r vs H1 Q
theorem bb (hc:eZ X (.builtin id) r) (hg:Gl X x) (hm:X.mg x=none) (hv:bootBuiltins x=some (.builtin id)) (ha:PA X (e::es) t) (hn:x ≠ "__name__" := by decide) (hdb:(x == ("__debug__" : Str))=false:=by decide)
  (he:starEach (e::es) X.env=(false,eval e X.env)::starEach es X.env:=by rfl) (hpl:(backTo pos (starEach es X.env)).any (·.1)=false:=by rfl):PE X (.Call (.Name x p) (e::es) [] pos) (DF r t):=by
 intro pins s Gd H Q I h
 refine Js (mY I hg hm hv ?_ hn hdb)
 exact PyProof.Rows.callWith_builtin1 (bo (ha pos pins s Gd H _ I h) fun us s1 ⟨vs,H1,I1,r1,q1⟩=>hc pins s1 Gd H1 vs us Q I1 r1 q1) he hpl
theorem bA (hc:eZ X (.type T) r) (hg:Gl X x) (hm:X.mg x=none) (hv:bootBuiltins x=some (.type T)) (ha:PA X (e::es) t) (hn:x ≠ "__name__" := by decide) (hdb:(x == ("__debug__" : Str))=false:=by decide)
  (he:starEach (e::es) X.env=(false,eval e X.env)::starEach es X.env:=by rfl) (hpl:(backTo pos (starEach es X.env)).any (·.1)=false:=by rfl):PE X (.Call (.Name x p) (e::es) [] pos) (DF r t):=by
 intro pins s Gd H Q I h
 refine Js (mY I hg hm hv ?_ hn hdb)
 exact PyProof.Rows.callWith_type1 (bo (ha pos pins s Gd H _ I h) fun us s1 ⟨vs,H1,I1,r1,q1⟩=>hc pins s1 Gd H1 vs us Q I1 r1 q1) he hpl
theorem qi (hc:eZ X (.type T) r) (hg:Gl X x) (hm:X.mg x=none) (hv:bootBuiltins x=some (.type T)) (hn:x ≠ "__name__" := by decide) (hdb:(x == ("__debug__" : Str))=false:=by decide) :
  PE X (.Call (.Name x p) [] [] pos) (DF r uJ):=by
 intro pins s Gd H Q I h
 refine Js (mY I hg hm hv ?_ hn hdb)
 exact PyProof.Rows.callWith_type0 (hc pins s Gd H [] [] Q I .nil h)
end
end L2
namespace HT
open PySem PyProof.Rows
section
open PySem.SeqAt
open PySem.AutoSeq1 (wpAny_loadPart')
open PySem.MeetsSeq PySem.MeetsSeq2 PySem.MeetsSeq3
end
section
variable {prog:Program}{w:World}{A:Around}{E:Value->Shared->Prop}{s:Shared}
theorem CB {t b:Addr}{vs ws:List Value}{Q:Value->Shared->Prop}(ht:IsTup s.heap t vs.toArray)(hb:IsTup s.heap b ws.toArray)(hv:vs≠[])
  (h1:ws=[]->Q (.ref t) s) (h2:ws≠[]->Q (.ref s.heap.objs.size) { s with heap:=s.heap.push { cls:=.type "tuple",data:=.seq (vs++ws).toArray } })
  (hsz:vs.length+ws.length<=sizeLine):wpAny (model prog w) A (binaryOp .Add (.ref t) (.ref b)) Q E s:=by
 obtain⟨⟨cls,dd,data,sl⟩,ho,hc,n,hd⟩:=id ht
 obtain⟨⟨cls2,dd2,data2,sl2⟩,ho2,hc2,n2,hd2⟩:=id hb
 simp only at hc hd hc2 hd2
 subst hc hd hc2 hd2
 have e:vs.toArray++ws.toArray=(vs++ws).toArray:=by simp
 by_cases hw:ws=[]
 ·exact concat_meets ⟨_,ho,rfl⟩ ⟨_,ho2,rfl⟩ noFill_tuple_add seq_tuple_add PySem.F.slot_tuple_add PySem.F.entry_tuple_add (PySem.F.args_tuple_add_2 _ _)
   (tuple_addW1 t b vs.toArray ws.toArray n n2 dd dd2 sl sl2 (by simpa using hv) (by simp [hw])) ⟨ho,ho2,h1 hw⟩
 ·refine concat_meets ⟨_,ho,rfl⟩ ⟨_,ho2,rfl⟩ noFill_tuple_add seq_tuple_add PySem.F.slot_tuple_add PySem.F.entry_tuple_add (PySem.F.args_tuple_add_2 _ _)
   (tuple_addW2 t b vs.toArray ws.toArray n n2 dd dd2 sl sl2 (by simpa using hv) (by simpa using hw) (by rw [GF,GF];exact hsz)) ⟨ho,ho2,?_⟩
  rw [e]
  exact h2 hw
def bR (n d:Nat):Option Int->Nat
 | none=>d
 | some v=>if v<0 then (v+(n:Int)).toNat else min v.toNat n
theorem pd (n d:Nat):bR n d none=d:=rfl
theorem rD (n d k:Nat):bR n d (some (k:Int))=min k n:=by
 show (if (k:Int)<0 then ((k:Int)+(n:Int)).toNat else min (k:Int).toNat n)=min k n
 rw [if_neg (by omega),Hs]
theorem DG (n d:Nat)(hd:d<=n)(o:Option Int):bR n d o<=n:=by
 cases o with
 | none=>exact hd
 | some v =>
  show (if v<0 then (v+(n:Int)).toNat else min v.toNat n)<=n
  by_cases hv:v<0
  ·rw [if_pos hv];omega
  ·rw [if_neg hv];exact Nat.min_le_right _ _
theorem wU (v:Int)(n d:Nat):(if v<0 then max (v+(n:Int)) 0 else min v (n:Int))=((bR n d (some v):Nat):Int):=by
 show (if v<0 then max (v+(n:Int)) 0 else min v (n:Int))=(((if v<0 then (v+(n:Int)).toNat else min v.toNat n):Nat):Int)
 by_cases hv:v<0
 ·simp only [if_pos hv];omega
 ·simp only [if_neg hv];omega
theorem xU (lo hi:Option Int)(n:Nat):Builtin.Slice.sliceAdjust lo hi 1 (n:Int)=(((bR n 0 lo:Nat):Int),((bR n n hi:Nat):Int)):=by
 have h1:¬((1:Int)<0):=by omega
 unfold Builtin.Slice.sliceAdjust
 simp only [h1,if_false]
 refine Prod.ext ?_ ?_
 ·cases lo with
  | none=>rfl
  | some v=>exact wU v n 0
 ·cases hi with
  | none=>rfl
  | some v=>exact wU v n n
theorem xV (i j:Nat):Builtin.Slice.slicePlaces (i:Int) (j:Int) 1=j-i:=by
 unfold Builtin.Slice.slicePlaces
 have h1:(1:Int) > 0:=by omega
 simp only [h1,if_true,Int.ediv_one]
 split <;> omega
theorem ql {v:Value}{o:Option Int}{Q:Option Int->Shared->Prop}(p:IsPart v o)(h:Q o s):wpAny (model prog w) A (Builtin.Slice.slicePartIndex v) Q E s:=by
 cases p with
 | none=>exact slicePart_none h
 | int i t=>exact slicePart_int h
theorem kj {sl:Addr}{vl vu:Value}{lo hi:Option Int}{n:Nat}{Q:Int×Int×Nat->Shared->Prop}(hs:s.heap.IsSliceOf sl vl vu .none)(pl:IsPart vl lo)(pu:IsPart vu hi)
  (h:Q (((bR n 0 lo:Nat):Int),1,bR n n hi-bR n 0 lo) s):wpAny (model prog w) A (Builtin.Slice.sliceApplied (.ref sl) (pure (n:Int))) Q E s:=by
 obtain⟨os,hos,hcs,hds⟩:=id hs
 unfold Builtin.Slice.sliceApplied Builtin.Slice.sliceFields
 refine IZ (IZ (Jf hos hds (x:=vl) rfl (IZ (Jf hos hds (x:=vu) rfl (IZ (Jf hos hds (x:=.none) rfl (I0 ?_)))))))
 refine IZ (slicePart_none ?_)
 show wpAny _ _ (if ((1:Int) == 0)=true then _ else _) _ _ s
 rw [if_neg (by decide)]
 refine IZ (ql pl (IZ (ql pu (IZ (I0 ?_)))))
 show wpAny _ _ (match Builtin.Slice.sliceAdjust lo hi 1 (n:Int) with | (lo,hi)=>pure (lo,(1:Int),Builtin.Slice.slicePlaces lo hi 1)) _ _ s
 rw [xU lo hi n]
 show wpAny _ _ (pure (((bR n 0 lo:Nat):Int),(1:Int),Builtin.Slice.slicePlaces ((bR n 0 lo:Nat):Int) ((bR n n hi:Nat):Int) 1)) _ _ s
 rw [xV]
 exact I0 h
theorem AH (xs:Array Value)(i k:Nat):((GN k).filterMap fun (m:Nat)=>xs[((i:Int)+(m:Int)*1).toNat]?).toArray=((xs.toList.drop i).take k).toArray:=by
 have e:(fun (m:Nat)=>xs[((i:Int)+(m:Int)*1).toNat]?)=fun m=>xs[i+m]?:=by
  funext m
  have:((i:Int)+(m:Int)*1).toNat=i+m:=by omega
  rw [this]
 rw [e]
 have:=pick_run xs i k
 rw [List.filterMap_map] at this
 have e2:((fun x=>xs[x]?) ∘ fun x=>i+x)=fun m=>xs[i+m]?:=rfl
 rw [e2] at this
 rw [this]
theorem oz {t sl:Addr}{items:Array Value}{vl vu:Value}{lo hi:Option Int}{Q:Value->Shared->Prop}(ht:IsTup s.heap t items)(hs:s.heap.IsSliceOf sl vl vu .none)(pl:IsPart vl lo)(pu:IsPart vu hi)
  (hw:¬(bR items.size 0 lo=0/\bR items.size items.size hi=items.size))
  (h:Q (.ref s.heap.objs.size) { s with heap:=s.heap.push { cls:=.type "tuple",data:=.seq ((items.toList.drop (bR items.size 0 lo)).take (bR items.size items.size hi-bR items.size 0 lo)).toArray } })
  (hsz:items.size<=sizeLine):wpAny (model prog w) A (getItem (.ref t) (.ref sl)) Q E s:=by
 have htake:sizeOk (.seq ((items.toList.drop (bR items.size 0 lo)).take (bR items.size items.size hi-bR items.size 0 lo)).toArray):=by
  show ((items.toList.drop (bR items.size 0 lo)).take (bR items.size items.size hi-bR items.size 0 lo)).toArray.size<=sizeLine
  rw [GF,G9,HS,G4]
  omega
 have hj:bR items.size items.size hi<=items.size:=DG _ _ (Gi _) hi
 obtain⟨os,hos,hcs,hds⟩:=id hs
 have hTs:s.TypeIs (.ref sl) "slice" := ⟨os,hos,hcs⟩
 unfold getItem
 try with_reducible refine Jc ?_
 first | refine IZ (I0 ?_) | skip
 refine IZ (JD ht.typeIs (by decide) ?_)
 refine IZ (wpAny_callSpecial?_slot (name:=Str.ofString "__getitem__") ht.typeIs PyProof.Rows.slot_tuple_getitem
  (Jd PyProof.Rows.slot_tuple_getitem ht.typeIs entry_tuple_getitem ?_ (args_tuple_getitem _ _)))
 show wpAny _ _ (Builtin.Tuple.tupleItemsOf (.ref t) >>= _) _ _ s
 refine IZ (tupleItemsOf_ ht ?_)
 refine IZ (Jm hTs ?_)
 rw [if_pos (by decide)]
 refine IZ (kj hs pl pu ?_)
 have hno:¬((((bR items.size 0 lo:Nat):Int) == 0&&(1:Int) == 1&&(bR items.size items.size hi-bR items.size 0 lo) == items.size)=true):=by
  intro q
  rw [G5,G5] at q
  have q1:((bR items.size 0 lo:Nat):Int)=0:=eq_of_beq q.1.1
  have q2:bR items.size items.size hi-bR items.size 0 lo=items.size:=eq_of_beq q.2
  exact hw ⟨by omega,by omega⟩
 show wpAny _ _ (if (((bR items.size 0 lo:Nat):Int) == 0&&(1:Int) == 1&&(bR items.size items.size hi-bR items.size 0 lo) == items.size)=true then _ else _) _ _ s
 rw [if_neg hno,AH]
 first
  | exact IZ (m:=Builtin.Tuple.tupleExact _) (Je (I0 ⟨_,rfl,I0 h⟩) htake)
  | exact IZ (m:=Builtin.Tuple.tupleExact _) (Je (IZ (I0 (I0 ⟨_,rfl,I0 h⟩))) htake)
  | exact IZ (IZ (m:=Builtin.Tuple.tupleExact _) (Je (I0 (I0 ⟨_,rfl,I0 h⟩)) htake))
  | exact IZ (IZ (m:=Builtin.Tuple.tupleExact _) (Je (I0 ⟨_,rfl,I0 h⟩) htake))
end
end HT
namespace L2
open PySem PySem.Spec PyProof.Rows
abbrev TO:=St->Hp->(Option Int->Hp->Prop)->Prop
def PO (X:Cx)(e:Option Expr)(t:TO):Prop :=
 ∀(pins:List (Addr×Obj)) (s:Shared) (Gd : St) (H:Hp) (Q:Option Int->Hp->Prop),Inv X pins Gd H s->t Gd H Q ->
  wpAny (model X.prog X.w) X.A (evalPart e X.env) (fun u s'=>∃o H',Inv X pins Gd H' s'/\IsPart u o/\Q o H') X.xe s
def CC:TO:=fun _ H Q=>Q none H
def ED (t:TE):TO:=fun Gd H Q=>t Gd H fun x H1=>∃i,x=.int i/\Q (some i) H1
theorem intsAre_of {ns:List Int}:∀{us:List Value},Vals (ns.map V.int) us->IntsAre us ns:=by
 induction ns with
 | nil=>intro us r;rw [HG] at r;cases r;exact .nil
 | cons n ns ih =>
  intro us r
  rw [GS] at r
  cases r with
  | cons r1 r2 =>
   obtain⟨t,e⟩:=r1
   subst e
   exact .cons n t (ih r2)
section
variable {X:Cx}{e:Expr}{te:TE}{lo hi:Option Expr}{tl th:TO}{pos p2:Pos}
theorem lH:PO X none CC:=by
 intro pins s Gd H Q I h
 rw [evalPart_none]
 exact I0 ⟨none,H,I,.none,h⟩
theorem lI (h:PE X e te):PO X (some e) (ED te):=by
 intro pins s Gd H Q I hw
 rw [evalPart_some]
 refine bo (h pins s Gd H _ I hw) fun u s1 ⟨x,H1,I1,r1,q1⟩=>?_
 obtain⟨i,rfl,q⟩:=q1
 obtain⟨t,rfl⟩:=r1
 exact⟨some i,H1,I1,.int i t,q⟩
def Ca (X:Cx)(r:V->Option Int->Option Int->Hp->VK->Prop):Prop :=
 ∀(pins:List (Addr×Obj)) (s:Shared) (Gd : St) (H:Hp) (x:V) (v vl vu:Value) (lo hi:Option Int) (sl:Addr) (Q:VK),Inv X pins Gd H s->RelV x v->s.heap.IsSliceOf sl vl vu .none->IsPart vl lo->IsPart vu hi->r x lo hi H Q ->
  ∃T id,typeLookup (.type T) "__getitem__" = pure (some (.builtin id))/\s.TypeIs v T/\wpAny (model X.prog X.w) X.A (getItem v (.ref sl)) (EP X pins Gd Q) X.xe s
def FU (r:V->Option Int->Option Int->Hp->VK->Prop)(te:TE)(tl th:TO):TE:=fun Gd H Q=>te Gd H fun x H1=>tl Gd H1 fun l H2=>th Gd H2 fun u H3=>r x l u H3 Q
theorem km {r:V->Option Int->Option Int->Hp->VK->Prop}(hr:Ca X r)(he:PE X e te)(hl:PO X lo tl)(hu:PO X hi th):PE X (.Subscript e (.Slice lo hi none p2) pos) (FU r te tl th):=by
 intro pins s Gd H Q I h
 refine Subscript_ (bo (he pins s Gd H _ I h) fun v s1 ⟨x,H1,I1,r1,q1⟩=>?_)
 refine wpAny_Slice (bo (hl pins s1 Gd H1 _ I1 q1) fun vl s2 ⟨l,H2,I2,pl,q2⟩=>bo (hu pins s2 Gd H2 _ I2 q2) fun vu s3 ⟨u,H3,I3,pu,q3⟩=>?_)
 rw [evalPart_none]
 refine I0 ?_
 have I4:Inv X pins Gd H3 { s3 with heap:=s3.heap.push { cls:=.type "slice",data:=.fields #[vl,vu,.none] } }:=I3.kept (t':=s3.toks) fun b ob q=>Gs _ q
 obtain⟨T,id,hT,ht,hg⟩:=hr pins { s3 with heap:=s3.heap.push { cls:=.type "slice",data:=.fields #[vl,vu,.none] } } Gd H3 x v vl vu l u s3.heap.objs.size Q I4 r1 (Heap.IsSliceOf.new ..) pl pu q3
 show wpAny (model X.prog X.w) X.A (subscriptTail e (.Slice lo hi none p2) v (.ref s3.heap.objs.size)) (EP X pins Gd Q) X.xe { s3 with heap:=s3.heap.push { cls:=.type "slice",data:=.fields #[vl,vu,.none] } }
 exact tail_any (ops:=[.ref s3.heap.objs.size,v]) ht hT hg (by with_unfolding_all rfl)
def fC (xs:List V)(lo hi:Option Int):List V:=(xs.drop (HT.bR xs.length 0 lo)).take (HT.bR xs.length xs.length hi-HT.bR xs.length 0 lo)
theorem oM (xs:List V)(lo hi:Option Int):(fC xs lo hi).length<=xs.length:=by
 unfold fC
 rw [G9,HS]
 omega
def Fx (K:Gh):V->Option Int->Option Int->Hp->VK->Prop:=fun x lo hi H Q=>∃a xs,x=.ref a/\ay K H a xs /\
 ¬(HT.bR xs.length 0 lo=0/\HT.bR xs.length xs.length hi=xs.length)/\∀p,H p=none->Q (.ref p) (upd H p (.tup (fC xs lo hi)))
theorem DH:Ca X (Fx X.K):=by
 intro pins s Gd H x v vl vu lo hi sl Q I rx hs pl pu h
 obtain⟨a,xs,rfl,hx,hw,q⟩:=h
 cases rx
 obtain⟨its,r,ht,hz⟩:=I.tuple hx
 have hlen:its.toArray.size=xs.length:=by rw [GF];exact r.length.symm
 refine⟨"tuple",_,PyProof.Rows.slot_tuple_getitem.lookup,ht.typeIs,?_⟩
 refine HT.oz ht hs pl pu (by rw [hlen];exact hw) ?_ (by rw [hlen];exact hz)
 rw [hlen]
 refine⟨.ref s.heap.objs.size,_,I.laid (t':=s.toks) (o:=.tup (fC xs lo hi)) (fun b ob q=>Gs _ q) (Gi _) ?_,rfl,q _ (I.aZ.fresh (Gi _))⟩
 exact⟨Gy (oM xs lo hi) hz,_,(r.drop (HT.bR xs.length 0 lo)).take (HT.bR xs.length xs.length hi-HT.bR xs.length 0 lo),⟨_,Gx _ rfl,rfl,_,rfl,rfl⟩⟩
theorem Vals.rE {xs:List V}{us:List Value}(r:Vals xs us):us=[]↔xs=[]:=by
 cases r with
 | nil=>simp
 | cons _ _=>simp
end
def oN (n:Nat)(i:Int):Option Nat:=if 0<=i then (if i<n then some i.toNat else none) else if -(n:Int)<=i then some (i+n).toNat else none
def fw {α : Type}(xs:List α)(i:Int):Option α:=(oN xs.length i).bind fun j=>xs[j]?
theorem wV {n:Nat}{i:Int}{j:Nat}(h:oN n i=some j):seqIndex? i n=some j/\j<n/\-(n:Int)<=i/\i<n:=by
 unfold oN at h
 by_cases h0:0<=i
 ·rw [if_pos h0] at h
  by_cases h1:i<n
  ·rw [if_pos h1] at h
   have e:i.toNat=j:=GL.inj h
   exact⟨by rw [seqIndex_of h0 h1,e],by omega,by omega,h1⟩
  ·rw [if_neg h1] at h;cases h
 ·rw [if_neg h0] at h
  by_cases h1:-(n:Int)<=i
  ·rw [if_pos h1] at h
   have e:(i+n).toNat=j:=GL.inj h
   exact⟨by rw [seqIndex_neg (by omega) h1,e],by omega,h1,by omega⟩
  ·rw [if_neg h1] at h;cases h
theorem rF {α : Type}{xs:List α}{i:Int}{v:α}(h:fw xs i=some v):∃j,seqIndex? i xs.length=some j/\xs[j]?=some v/\j<xs.length/\-(xs.length:Int)<=i/\i<xs.length:=by
 unfold fw at h
 cases e:oN xs.length i with
 | none=>rw [e] at h;cases h
 | some j =>
  rw [e] at h
  obtain⟨h1,h2,h3,h4⟩:=wV e
  exact⟨j,h1,h,h2,h3,h4⟩
theorem bI {α : Type}{xs:List α}{j:Nat}{v:α}(h:xs[j]?=some v):fw xs (j:Int)=some v:=by
 have hj:j<xs.length:=(GQ.mp h).1
 have e:oN xs.length (j:Int)=some j:=by
  unfold oN
  rw [if_pos (by omega),if_pos (by omega)];simp
 unfold fw;rw [e];exact h
def CF (b:Expr):Prop:=∀o i,subscripted b false o i=operate [o,i] (getItem o i)
def ze (X:Cx)(r:R2):Prop :=
 ∀(value slice:Expr) (pins:List (Addr×Obj)) (s:Shared) (Gd : St) (H:Hp) (x y:V) (v u:Value) (Q:VK),Inv X pins Gd H s->RelV x v->RelV y u->r x y H Q ->
  subscripted slice false v u=operate [v,u] (getItem v u)->wpAny (model X.prog X.w) X.A (subscriptTail value slice v u) (EP X pins Gd Q) X.xe s
def DI (X:Cx)(id:String)(r:V->List V->Hp->VK->Prop):Prop :=
 ∀(pins:List (Addr×Obj)) (s:Shared) (Gd : St) (H:Hp) (x:V) (xs:List V) (v:Value) (us:List Value) (Q:VK),Inv X pins Gd H s->RelV x v->Vals xs us->r x xs H Q ->
  wpAny (model X.prog X.w) X.A (call (.builtin id) (v::us)) (EP X pins Gd Q) X.xe s
section
variable {X:Cx}{a b:Expr}{ta tb:TE}{pos:Pos}
theorem aF {r:R2}(hr:ze X r)(ha:PE X a ta)(hb:PE X b tb)(hs:CF b):PE X (.Subscript a b pos) (BX r ta tb):=by
 intro pins s Gd H Q I h
 exact Subscript_ (Ax ha hb I h fun v u s2 x y H2 I2 rx ry q=>hr a b pins s2 Gd H2 x y v u Q I2 rx ry q (hs _ _))
def DJ (K:Gh):R2:=fun x y H Q=>∃p xs i v,x=.ref p/\y=.int i/\aY K H p xs/\fw xs i=some v/\Q v H
def Fy (K:Gh):R2:=fun x y H Q=>∃p xs i v,x=.ref p/\y=.int i/\ay K H p xs/\fw xs i=some v/\Q v H
def Fz:R2:=fun x y H Q=>∃z i c,x=.str z/\y=.int i/\z.length<=sizeLine/\fw z.cps.toList i=some c/\Q (.str ⟨#[c]⟩) H
theorem cy:ze X (DJ X.K):=by
 intro value slice pins s Gd H x y v u Q I rx ry h hs
 obtain⟨p,xs,i,z,rfl,rfl,hq,he,q⟩:=h
 cases rx
 obtain⟨t,rfl⟩:=ry
 obtain⟨its,r,pl,hz⟩:=I.list hq
 obtain⟨j,h1,h2,h3,h4,h5⟩:=rF he
 obtain⟨w,ew,rw'⟩:=r.get h2
 have hl:=r.length
 have hn:=jr
 have fin:EP X pins Gd Q w s:=⟨z,H,I,rw',q⟩
 by_cases h0:0<=i
 ·have hj:i.toNat=j:=by
   rw [seqIndex_of h0 h5] at h1
   exact GL.inj h1
  exact item_listR pl.isList h0 (by omega) (by rw [hj];simpa using ew) fin hs
 ·have hj:(i+(its.toArray.size:Int)).toNat=j:=by
   rw [seqIndex_neg (by omega) h4] at h1
   rw [GF,<-hl]
   exact GL.inj h1
  exact subscriptTail_builtinR (x:=w) pl.isList.typeIs slot_list_getitem.lookup
   (wpAny_getItem_list_neg (Q:=fun r s'=>r=w/\EP X pins Gd Q r s') pl.isList (by omega) (by rw [GF] <;> omega) (by omega) (by rw [hj];simpa using ew) ⟨rfl,fin⟩) hs
theorem aK:ze X (Fy X.K):=by
 intro value slice pins s Gd H x y v u Q I rx ry h hs
 obtain⟨p,xs,i,z,rfl,rfl,hq,he,q⟩:=h
 cases rx
 obtain⟨t,rfl⟩:=ry
 obtain⟨its,r,pl,hz⟩:=I.tuple hq
 obtain⟨j,h1,h2,h3,h4,h5⟩:=rF he
 obtain⟨w,ew,rw'⟩:=r.get h2
 have hl:=r.length
 have hn:=jr
 have fin:EP X pins Gd Q w s:=⟨z,H,I,rw',q⟩
 exact subscriptTail_builtinR (x:=w) pl.typeIs slot_tuple_getitem.lookup
  (getItem_tuple (j:=j) (Q:=fun r s'=>r=w/\EP X pins Gd Q r s') pl (by omega) (by omega) (by rw [GF,<-hl];exact h1) (by simpa using ew) ⟨rfl,fin⟩) hs
theorem zf:ze X Fz:=by
  intro value slice pins s Gd H x y v u Q I rx ry h hs
  obtain⟨z,i,c,rfl,rfl,hz,he,q⟩:=h
  obtain⟨t,rfl⟩:=rx
  obtain⟨t',rfl⟩:=ry
  obtain⟨j,h1,h2,h3,h4,h5⟩:=rF he
  have hl:z.cps.toList.length=z.length:=by simp [Str.length]
  rw [hl] at h1 h4 h5
  have hn:=jr
  exact tail_any (typeIs_str s z t) slot_str_getitem.lookup (getItem_str (c:=c) (by
    have e1:decide (i < -(2 ^ 63:Int))=false:=decide_eq_false (by omega)
    have e2:decide (i >= 2 ^ 63)=false:=decide_eq_false (by omega)
    rw [e1,e2,Bool.or_false]) (by rw [h1];simpa using h2) ⟨.str ⟨#[c]⟩,H,I.tok _,⟨_,rfl⟩,q⟩) hs
theorem xW (its:List Value)(n j:Nat)(u:Value):Obj.mapSeq (·.setIfInBounds j u) { cls:=.type "list",data:=.seq its.toArray n } = { cls:=.type "list",data:=.seq (its.set j u).toArray n }:=by
 simp [Obj.mapSeq]
theorem Inv.lst {pins:List (Addr×Obj)}{Gd : St}{H:Hp}{s:Shared}{p:Addr}{xs:List V}(I:Inv X pins Gd H s)(h:H p=some (.lst xs)) :
  ∃(its:List Value) (n:Nat),Vals xs its/\s.heap.get? p=some { cls:=.type "list",data:=.seq its.toArray n }/\xs.length<=sizeLine:=by
 obtain⟨z,its,n,r,e⟩:=I.aZ p _ h
 exact⟨its,n,r,e,z⟩
theorem Inv.DK {pins:List (Addr×Obj)}{Gd : St}{H:Hp}{s:Shared}{p:Addr}{xs ys:List V}{its its':List Value}{n n':Nat}{f:Obj->Obj}(I:Inv X pins Gd H s)(h:H p=some (.lst xs))
  (ho:s.heap.get? p=some { cls:=.type "list",data:=.seq its.toArray n }) (hf:f { cls:=.type "list",data:=.seq its.toArray n } = { cls:=.type "list",data:=.seq its'.toArray n' }) (r:Vals ys its') (hz:ys.length<=sizeLine) (t:Nat) :
  Inv X pins Gd (upd H p (.lst ys)) { s with heap:=s.heap.update p f,toks:=t }:=by
 have e:(s.heap.update p f).get? p=some { cls:=.type "list",data:=.seq its'.toArray n' }:=by
  rw [Hi f ho (by rw [hf] <;> rfl),hf]
 refine I.write (x:=p) (e:=p) (by rw [h];trivial) (.inl rfl) (fun b u hb q=>(Hj _ _ (Ne.symm hb)).trans q) ⟨_,e⟩ ?_
 exact⟨hz,its',n',r,e⟩
def EE:V->V->V->Hp->(Hp->Prop)->Prop:=fun o i v H Q=>∃p xs k j,o=.ref p/\i=.int k/\H p=some (.lst xs)/\oN xs.length k=some j/\Q (upd H p (.lst (xs.set j v)))
theorem set_list:As X EE:=by
 intro pins s Gd H o i v ov iv u Q I ro ri rv h
 obtain⟨p,xs,k,j,rfl,rfl,hp,hj,q⟩:=h
 cases ro
 obtain⟨t,rfl⟩:=ri
 obtain⟨its,n,r,ho,hz⟩:=I.lst hp
 obtain⟨h1,h2,h3,h4⟩:=wV hj
 have hl:=r.length
 have hn:=jr
 have I':Inv X pins Gd (upd H p (.lst (xs.set j v))) { s with heap:=s.heap.update p (Obj.mapSeq (·.setIfInBounds j u)) } :=
  I.DK hp ho (xW its n j u) (r.set rv j) (by rw [Iq];exact hz) s.toks
 by_cases h0:0<=k
 ·have hk:k.toNat=j:=by
   rw [seqIndex_of h0 h4] at h1
   exact GL.inj h1
  exact PySem.W.ki_setAt ho h0 (by omega) (by rw [GF,<-hl];exact h4) (by rw [hk];exact⟨_,I',q⟩)
 ·have hk:(k+(its.toArray.size:Int)).toNat=j:=by
   rw [seqIndex_neg (by omega) h3] at h1
   rw [GF,<-hl]
   exact GL.inj h1
  exact PySem.W.ki_setBack ho (by omega) (by rw [GF,<-hl];exact h3) (by omega) (by rw [hk];exact⟨_,I',q⟩)
theorem uM (lo hi:Option Int)(n:Nat):(sliceBounds lo hi none n).1=((HT.bR n 0 lo:Nat):Int)/\(sliceBounds lo hi none n).2.1=((HT.bR n n hi:Nat):Int)/\(sliceBounds lo hi none n).2.2=1:=by
 refine⟨?_,?_,rfl⟩
 ·cases lo with
  | none=>simp [sliceBounds,HT.bR]
  | some i =>
   simp only [sliceBounds,HT.bR,Option.getD_none,show (1:Int) > 0 by decide,if_true]
   by_cases h:i<0
   ·simp only [h,if_true] <;> omega
   ·simp only [h,if_false] <;> omega
 ·cases hi with
  | none=>simp [sliceBounds,HT.bR]
  | some i =>
   simp only [sliceBounds,HT.bR,Option.getD_none,show (1:Int) > 0 by decide,if_true]
   by_cases h:i<0
   ·simp only [h,if_true] <;> omega
   ·simp only [h,if_false] <;> omega
theorem ub (its:List Value)(lo hi:Option Int):slicePick its.toArray lo hi none=((its.drop (HT.bR its.length 0 lo)).take (HT.bR its.length its.length hi-HT.bR its.length 0 lo)).toArray:=by
 obtain⟨h1,h2,h3⟩:=uM lo hi its.toArray.size
 unfold slicePick
 rw [h1,h2,h3]
 simp only [sliceRange_one,pick_run,GF] <;> rfl
def FA (K:Gh):V->Option Int->Option Int->Hp->VK->Prop:=fun x lo hi H Q=>∃a xs,x=.ref a/\aY K H a xs/\∀p,H p=none->Q (.ref p) (upd H p (.lst (fC xs lo hi)))
theorem CG:Ca X (FA X.K):=by
 intro pins s Gd H x v vl vu lo hi sl Q I rx hs pl pu h
 obtain⟨a,xs,rfl,hx,q⟩:=h
 cases rx
 obtain⟨its,r,ht,hz⟩:=I.list hx
 have hlen:=r.length
 refine⟨"list",_,slot_list_getitem.lookup,ht.isList.typeIs,?_⟩
 refine wpAny_getItem_list_slice ht.isList hs pl pu .none (by simp) ?_ (by rw [GF] <;> omega)
 rw [ub,<-hlen]
 refine⟨.ref s.heap.objs.size,_,I.laid (t':=s.toks) (o:=.lst (fC xs lo hi)) (fun b ob q=>Gs _ q) (Gi _) ?_,rfl,q _ (I.aZ.fresh (Gi _))⟩
 exact⟨Gy (oM xs lo hi) hz,_,0,(r.drop (HT.bR xs.length 0 lo)).take (HT.bR xs.length xs.length hi-HT.bR xs.length 0 lo),Gx _ rfl⟩
def iM:V->Bool
 | .bL=>true
 | .bl _=>true
 | .int _=>true
 | .str _=>true
 | _=>false
def sX:V->V->Bool
 | .bL,.bL=>true
 | .bl a,.bl b=>a == b
 | .bl a,.int b=>(if a then 1 else 0) == b
 | .int a,.bl b=>a == (if b then 1 else 0)
 | .int a,.int b=>a == b
 | .str a,.str b=>a == b
 | _,_=>false
theorem DL {A:Around}{s:Shared}{y x:V}{u v:Value}(ry:RelV y u)(rx:RelV x v)(fy:iM y=true)(fx:iM x=true):SeqAt.EqAt A s u v (sX y x):=by
 cases y with
 | bL =>
  cases ry
  cases x with
  | bL=>cases rx;exact SeqAt.EqAt.same _
  | bl b=>cases rx;exact SeqAt.EqAt.none_bool b
  | int b=>obtain⟨t,rfl⟩:=rx;exact SeqAt.EqAt.none_int b t
  | str b=>obtain⟨t,rfl⟩:=rx;exact SeqAt.EqAt.none_str b t
  | _=>exact absurd (show false=true from fx) GR
 | bl a =>
  cases ry
  cases x with
  | bL=>cases rx;exact SeqAt.EqAt.bool_none a
  | bl b=>cases rx;exact SeqAt.EqAt.bool_bool a b
  | int b=>obtain⟨t,rfl⟩:=rx;exact SeqAt.EqAt.bool_int a b t
  | str b=>obtain⟨t,rfl⟩:=rx;exact SeqAt.EqAt.bool_str a b t
  | _=>exact absurd (show false=true from fx) GR
 | int a =>
  obtain⟨t',rfl⟩:=ry
  cases x with
  | bL=>cases rx;exact SeqAt.EqAt.int_none a t'
  | bl b=>cases rx;exact SeqAt.EqAt.int_bool a t' b
  | int b=>obtain⟨t,rfl⟩:=rx;exact SeqAt.EqAt.int_int a t' b t
  | str b=>obtain⟨t,rfl⟩:=rx;exact SeqAt.EqAt.int_str a t' b t
  | _=>exact absurd (show false=true from fx) GR
 | str a =>
  obtain⟨t',rfl⟩:=ry
  cases x with
  | bL=>cases rx;exact SeqAt.EqAt.str_none a t'
  | bl b=>cases rx;exact SeqAt.EqAt.str_bool a t' b
  | int b=>obtain⟨t,rfl⟩:=rx;exact SeqAt.EqAt.str_int a t' b t
  | str b=>obtain⟨t,rfl⟩:=rx;exact SeqAt.EqAt.str_str a t' b t
  | _=>exact absurd (show false=true from fx) GR
 | _=>exact absurd (show false=true from fy) GR
def jJ (x:V)(u:Value):Bool:=match u with
 | .none=>sX .bL x
 | .bool b=>sX (.bl b) x
 | .int i _=>sX (.int i) x
 | .str z _=>sX (.str z) x
 | _=>false
theorem zg {x y:V}{u:Value}(r:RelV y u)(f:iM y=true):jJ x u=sX y x:=by
 cases y with
 | bL=>cases r;rfl
 | bl b=>cases r;rfl
 | int i=>obtain⟨t,rfl⟩:=r;rfl
 | str z=>obtain⟨t,rfl⟩:=r;rfl
 | _=>exact absurd (show false=true from f) GR
theorem lJ {x:V}:∀{xs:List V} {us:List Value},Vals xs us->xs.all iM=true->us.any (jJ x)=xs.any fun y=>sX y x
 | _,_,.nil,_=>rfl
 | y::xs,u::us,.cons r t,f=>by
  rw [List.all_cons,G5] at f
  rw [HU,HU,zg r f.1,lJ t f.2]
theorem iY {A:Around}{s:Shared}{x:V}{v:Value}(rx:RelV x v)(fx:iM x=true):∀{xs:List V} {us:List Value},Vals xs us->xs.all iM=true->∀u∈us,SeqAt.EqAt A s u v (jJ x u)
 | _,_,.nil,_=>fun u hu=>by cases hu
 | y::xs,u::us,.cons r t,f=>fun u' hu=>by
  rw [List.all_cons,G5] at f
  rcases Gu.mp hu with rfl | hu
  ·rw [zg r f.1];exact DL r rx f.1 fx
  ·exact iY rx fx t f.2 u' hu
def sY (x:V)(xs:List V):Bool:=xs.any fun y=>sX y x
def EX (K:Gh)(neg:Bool):R2:=fun x y H Q=>∃p xs,y=.ref p/\(aY K H p xs\/ay K H p xs)/\iM x=true/\xs.all iM=true/\Q (.bl (if neg then !sY x xs else sY x xs)) H
theorem sZ:fq X (compareOp .In) (EX X.K false):=by
 intro pins s Gd H x y v u Q I rx ry h
 obtain⟨p,xs,rfl,hq,fx,fs,q⟩:=h
 cases ry
 rcases hq with hq | hq
 ·obtain⟨its,r,pl,hz⟩:=I.list hq
  refine SeqAt.in_listAt (jJ x) pl.isList (fun w hw=>iY rx fx r fs w (by simpa using hw)) ⟨.bl _,H,I,rfl,?_⟩
  rw [show its.toArray.any (jJ x)=its.any (jJ x) by simp,lJ r fs]
  exact q
 ·obtain⟨its,r,pl,hz⟩:=I.tuple hq
  refine SeqAt.in_tupleAt (jJ x) pl (fun w hw=>iY rx fx r fs w (by simpa using hw)) ⟨.bl _,H,I,rfl,?_⟩
  rw [show its.toArray.any (jJ x)=its.any (jJ x) by simp,lJ r fs]
  exact q
theorem uN:fq X (compareOp .NotIn) (EX X.K true):=by
 intro pins s Gd H x y v u Q I rx ry h
 obtain⟨p,xs,rfl,hq,fx,fs,q⟩:=h
 cases ry
 rcases hq with hq | hq
 ·obtain⟨its,r,pl,hz⟩:=I.list hq
  refine SeqAt.notIn_listAt (jJ x) pl.isList (fun w hw=>iY rx fx r fs w (by simpa using hw)) ⟨.bl _,H,I,rfl,?_⟩
  rw [show its.toArray.any (jJ x)=its.any (jJ x) by simp,lJ r fs]
  exact q
 ·obtain⟨its,r,pl,hz⟩:=I.tuple hq
  refine SeqAt.notIn_tupleAt (jJ x) pl (fun w hw=>iY rx fx r fs w (by simpa using hw)) ⟨.bl _,H,I,rfl,?_⟩
  rw [show its.toArray.any (jJ x)=its.any (jJ x) by simp,lJ r fs]
  exact q
theorem aV:eZ X (.builtin "len") (fun xs H Q=>∃p ys,xs=[.ref p]/\(aY X.K H p ys\/ay X.K H p ys)/\Q (.int ys.length) H):=by
 intro pins s Gd H xs us Q I r h
 obtain⟨p,ys,rfl,hq,q⟩:=h
 obtain⟨u,rfl,rx⟩:=vals1 r
 cases rx
 have hn:=jr
 rcases hq with hq | hq
 ·obtain⟨its,r',pl,hz⟩:=I.list hq
  have hlen:=r'.length
  exact Calls.call_len_list pl.isList (by simp only [GF] <;> omega) ⟨.int ys.length,H,I.tok _,⟨s.toks+1,by rw [GF,hlen]⟩,q⟩
 ·obtain⟨its,r',pl,hz⟩:=I.tuple hq
  have hlen:=r'.length
  exact len_tuple pl (by simp only [GF] <;> omega) ⟨.int ys.length,H,I.tok _,⟨s.toks+1,by rw [GF,hlen]⟩,q⟩
theorem m7:eZ X (.type "list") (fun xs H Q=>∃p ys,xs=[.ref p]/\(aY X.K H p ys\/ay X.K H p ys)/\∀l,H l=none->Q (.ref l) (upd H l (.lst ys))):=by
 intro pins s Gd H xs us Q I r h
 obtain⟨p,ys,rfl,hq,q⟩:=h
 obtain⟨u,rfl,rx⟩:=vals1 r
 cases rx
 have fin:∀(its:List Value),Vals ys its->ys.length<=sizeLine->∀(h':Heap) (c':Nat),(∀b o',s.heap.get? b=some o'->h'.get? b=some o') ->
   h'.get? s.heap.objs.size=some { cls:=.type "list",dict:=none,data:=.seq its.toArray c',slots:=#[] }->EP X pins Gd Q (.ref s.heap.objs.size) { s with heap:=h' }:=fun its r' hz h' c' kp e =>
  ⟨.ref s.heap.objs.size,_,I.laid (t':=s.toks) kp (Gi _) (show cA X.prog X.w _ h' _ (.lst ys) from ⟨hz,its,c',r',e⟩),rfl,q _ (I.aZ.fresh (Gi _))⟩
 rcases hq with hq | hq
 ·obtain⟨its,r',pl,hz⟩:=I.list hq
  have hlen:=r'.length
  obtain⟨o,ho,hc,n,hd⟩:=pl.isList
  exact call_list_seq p (.inl rfl) ho hc hd (fun h' c' kp e=>fin its r' hz h' c' kp e) (by simp only [GF] <;> omega)
 ·obtain⟨its,r',pl,hz⟩:=I.tuple hq
  have hlen:=r'.length
  obtain⟨o,ho,hc,n,hd⟩:=pl
  exact call_list_seq p (.inr rfl) ho hc hd (fun h' c' kp e=>fin its r' hz h' c' kp e) (by simp only [GF] <;> omega)
theorem bu:eZ X (.type "tuple") (fun xs H Q=>∃p ys,xs=[.ref p]/\((aY X.K H p ys/\∀l,H l=none->Q (.ref l) (upd H l (.tup ys)))\/(ay X.K H p ys/\Q (.ref p) H))):=by
 intro pins s Gd H xs us Q I r h
 obtain⟨p,ys,rfl,h⟩:=h
 obtain⟨u,rfl,rx⟩:=vals1 r
 cases rx
 rcases h with ⟨hq,q⟩ | ⟨hq,q⟩
 ·obtain⟨its,r',pl,hz⟩:=I.list hq
  have hlen:=r'.length
  refine call_tuple_list pl.isList (fun h' kp=>?_) (by simp only [GF] <;> omega)
  have I1:Inv X pins Gd H { s with heap:=h' }:=I.kept (t':=s.toks) kp
  have I2:Inv X pins Gd (upd H h'.objs.size (.tup ys)) { s with heap:=h'.push { cls:=.type "tuple",data:=.seq its.toArray } } :=
   I1.laid (t':=s.toks) (fun b o e=>Gs _ e) (Gi _) (show cA X.prog X.w _ _ _ (.tup ys) from ⟨hz,its,r',⟨_,Gx _ rfl,rfl,_,rfl,rfl⟩⟩)
  exact⟨.ref h'.objs.size,_,I2,rfl,q _ (I1.aZ.fresh (Gi _))⟩
 ·obtain⟨its,r',pl,hz⟩:=I.tuple hq
  exact call_tuple_same pl ⟨.ref p,H,I,rfl,q⟩
def DM (K:Gh)(T:String)(x:V)(H:Hp):Prop:=match x with
 | .str _=>T = "str"
 | .int _=>T = "int"
 | .ref p=>(T = "list" /\ ∃xs,aY K H p xs)\/(T = "tuple" /\ ∃o,K.lookup p=some o/\o.cls=.type "tuple" /\ o.dict=none) \/
   (T = "dict" /\ ((∃kvs,H p=some (.dK kvs))\/∃kvs,H p=some (.dT kvs)))\/(T = "set" /\ ∃S n,H p=some (.set S n))
 | _=>False
theorem zh {pins:List (Addr×Obj)}{Gd : St}{H:Hp}{s:Shared}{T:String}{x:V}{v:Value}(I:Inv X pins Gd H s)(r:RelV x v)(ty:DM X.K T x H) :
  s.TypeIs v T/\∀a,v=.ref a->∃ob,s.heap.get? a=some ob/\ob.dict=none:=by
 cases x with
 | str z =>
  obtain⟨t,rfl⟩:=r
  cases (show T = "str" from ty)
  exact⟨typeIs_str s z t,fun _ e=>nomatch e⟩
 | int i =>
  obtain⟨t,rfl⟩:=r
  cases (show T = "int" from ty)
  exact⟨typeIs_int s i t,fun _ e=>nomatch e⟩
 | ref p =>
  cases r
  rcases ty with ⟨rfl,xs,hq⟩ | ⟨rfl,o,hk,hc,hd⟩ | ⟨rfl,hk⟩ | ⟨rfl,S,n,hk⟩
  ·obtain⟨its,_,pl,_⟩:=I.list hq
   refine⟨pl.isList.typeIs,fun a e=>?_⟩
   cases e
   obtain⟨o,n,e,c,hd,_⟩:=pl
   exact⟨o,e,hd⟩
  ·refine⟨⟨o,I.jn p o hk,hc⟩,fun a e=>?_⟩
   cases e
   exact⟨o,I.jn _ o hk,hd⟩
  ·have z:∃o,s.heap.get? p=some o/\o.ExactDict:=by
    rcases hk with ⟨kvs,hk⟩ | ⟨kvs,hk⟩
    ·obtain⟨_,_,_,_,o,_,_,e,ex,_⟩:=I.aZ p _ hk
     exact⟨o,e,ex⟩
    ·obtain⟨_,_,_,_,o,_,_,e,ex,_⟩:=I.aZ p _ hk
     exact⟨o,e,ex⟩
   obtain⟨o,e,ex⟩:=z
   refine⟨⟨o,e,ex.1⟩,fun a e2=>?_⟩
   cases e2
   exact⟨o,e,ex.2.1⟩
  ·obtain⟨o,_,_,_,e,ex,_⟩:=I.aZ p _ hk
   refine⟨⟨o,e,ex.1⟩,fun a e2=>?_⟩
   cases e2
   exact⟨o,e,ex.2.1⟩
 | _=>exact False.elim ty
def FC (K:Gh)(T:String)(r:V->List V->Hp->VK->Prop)(to:TE):TE:=fun Gd H Q=>to Gd H fun x H1=>DM K T x H1/\r x [] H1 Q
def FW (K:Gh)(T:String)(r:V->List V->Hp->VK->Prop)(to:TE)(t:TA):TE:=fun Gd H Q=>to Gd H fun x H1=>DM K T x H1/\t Gd H1 fun xs H2=>r x xs H2 Q
variable {o e:Expr}{es:List Expr}{to:TE}{t:TA}{name:Str}{apos cpos:Pos}{T id:String}{r:V->List V->Hp->VK->Prop}
theorem DN (pa:PlainAttrs T) (slot:Slot T name id) (hty:typeOf (.builtin id)=pure (.type "method_descriptor")) (hm:DI X id r) (ho:PE X o to)
  (hbase:attributeBase o name X.env (eval o X.env)=eval o X.env:=by rfl) (hline:(apos.endLine == cpos.line)=true:=by rfl):PE X (.Call (.Attribute o name apos) [] [] cpos) (FC X.K T r to):=by
 intro pins s Gd H Q I h
 refine wpAny_Call_method0_late hbase hline (bo (ho pins s Gd H _ I h) fun v s1 ⟨x,H1,I1,r1,ty,q1⟩=>?_)
 obtain⟨h1,h2⟩:=zh I1 r1 ty
 exact⟨T,id,pa,slot,hty,h1,h2,Calls.callWith_builtin rfl (PySem.evalArgs_none (hm pins s1 Gd H1 x [] v [] Q I1 r1 .nil q1))⟩
theorem fb (pa:PlainAttrs T) (slot:Slot T name id) (hty:typeOf (.builtin id)=pure (.type "method_descriptor")) (hm:DI X id r) (ho:PE X o to) (ha:PA X (e::es) t)
  (hbase:attributeBase o name X.env (eval o X.env)=eval o X.env:=by rfl)
  (hfew:((backTo cpos (starEach (e::es) X.env)).all (fun x=>!x.1)&&(backToKw cpos (keywordEach [] X.env)).all (fun x=>x.1.isSome)
   && decide ((e::es).length+([]:List Keyword).length+(if ([]:List Keyword).isEmpty then 0 else 1)<30))=true:=by rfl)
  (hline:(apos.endLine == cpos.line)=true:=by rfl) (hs:starEach (e::es) X.env=(false,eval e X.env)::starEach es X.env:=by rfl) (hplain:(backTo cpos (starEach es X.env)).any (·.1)=false:=by rfl) :
  PE X (.Call (.Attribute o name apos) (e::es) [] cpos) (FW X.K T r to t):=by
 intro pins s Gd H Q I h
 refine wpAny_Call_method_late hbase hfew hline rfl (bo (ho pins s Gd H _ I h) fun v s1 ⟨x,H1,I1,r1,ty,q1⟩=>?_)
 obtain⟨h1,h2⟩:=zh I1 r1 ty
 refine⟨T,id,pa,slot,hty,h1,h2,?_⟩
 have hA:=ha cpos pins s1 Gd H1 _ I1 q1
 rw [hs] at hA ⊢
 refine Calls.callWith_builtin (by show (false||(backTo cpos (starEach es X.env)).any (·.1))=false;rw [hplain] <;> rfl) (Calls.evalArgs_plain ?_)
 exact bo hA fun us s2 ⟨vs,H2,I2,r2,q2⟩=>hm pins s2 Gd H2 x vs v us Q I2 r1 r2 q2
end
def wW (X:Cx)(id:String)(r:V->List V->Hp->VK->Prop):Prop :=
 ∀(pins:List (Addr×Obj)) (s:Shared) (Gd : St) (H:Hp) (x:V) (xs:List V) (v:Value) (us:List Value) (Q:VK),Inv X pins Gd H s->RelV x v->Vals xs us->r x xs H Q ->
  wpAny (model X.prog X.w) X.A (call (.builtin id) (v::us)) (EP X pins Gd Q) X.xe s
theorem Vals.one:∀{x:V} {us:List Value},Vals [x] us->∃u,us=[u]/\RelV x u
 | _,_,.cons r .nil=>⟨_,rfl,r⟩
theorem Vals.zero:∀{us:List Value},Vals [] us->us=[]
 | _,.nil=>rfl
theorem Vals.dropLast {xs:List V}{us:List Value}(h:Vals xs us):Vals xs.dropLast us.dropLast:=by
 induction h with
 | nil=>exact .nil
 | cons r t ih =>
  cases t with
  | nil=>exact .nil
  | cons q t'=>exact .cons r ih
theorem xX {α : Type}(l:List α):l.eraseIdx (l.length-1)=l.dropLast:=by
 induction l with
 | nil=>rfl
 | cons a r ih =>
  cases r with
  | nil=>rfl
  | cons b r =>
   have e:(a::b::r).length-1=((b::r).length-1)+1:=by
    have h1:(a::b::r).length=r.length+2:=rfl
    have h2:(b::r).length=r.length+1:=rfl
    omega
   rw [e,List.eraseIdx_cons_succ,ih]
   all_goals rfl
section
variable {X:Cx}{pins:List (Addr×Obj)}{Gd : St}{H:Hp}{s:Shared}{l b:Addr}{xs ys zs:List V}
theorem Inv.AI {its its':List Value}{n:Nat}{f:Array Value->Array Value}{t':Nat}(I:Inv X pins Gd H s)(hH:H l=some (.lst xs))
  (e:s.heap.get? l=some { cls:=.type "list",data:=.seq its.toArray n }) (hf:f its.toArray=its'.toArray) (hv:Vals ys its') (hz:ys.length<=sizeLine) :
  Inv X pins Gd (upd H l (.lst ys)) { s with heap:=s.heap.update l (Obj.mapSeq f),toks:=t' }:=by
 have q:=PySem.IsL.update e f
 rw [hf] at q
 refine I.write (x:=l) (e:=l) (by rw [hH];exact trivial) (.inl rfl) (fun b' u hb hu=>(Hj s.heap (Obj.mapSeq f) (Ne.symm hb)).trans hu) ⟨_,q⟩ ?_
 exact⟨hz,its',_,hv,q⟩
theorem Inv.fresh (I:Inv X pins Gd H s):H s.heap.objs.size=none:=I.aZ.fresh (Gi _)
theorem Inv.uO (I:Inv X pins Gd H s)(hH:H l=some (.lst xs)):xs.length<=sizeLine/\∃(its:List Value) (n:Nat),Vals xs its/\xs.length=its.length/\s.heap.get? l=some { cls:=.type "list",data:=.seq its.toArray n }:=by
 obtain⟨z,its,n,r,e⟩:=I.aZ l _ hH
 exact⟨z,its,n,r,r.length,e⟩
theorem AJ {n:Nat}(h:n<=sizeLine):Builtin.List.listTooLong n=false:=by
 unfold Builtin.List.listTooLong
 exact decide_eq_false (by omega)
end
section
variable {X:Cx}
def CH:V->List V->Hp->VK->Prop:=fun x vs H Q=>∃l xs y,x=.ref l/\vs=[y]/\H l=some (.lst xs)/\xs.length<sizeLine/\Q .bL (upd H l (.lst (xs++[y])))
theorem cR:wW X "list.append" CH:=by
 intro pins s Gd H x vs v us Q I rx rv h
 obtain⟨l,xs,y,rfl,rfl,hH,hz,q⟩:=h
 cases rx
 obtain⟨u,rfl,ru⟩:=rv.one
 obtain⟨z,its,n,r,hl,e⟩:=I.uO hH
 refine call_meets F.slot_list_append ⟨_,e,rfl⟩ F.entry_list_append (F.args_list_append_2 _ _) (PySem.list_append l its.toArray n u (by rw [GF];omega)) ⟨e,?_⟩
 refine⟨.bL,_,I.AI (its':=its++[u]) hH e (by simp) (r.append (.cons ru .nil)) ?_,rfl,q⟩
 rw [Gr,List.length_singleton]
 omega
def CI:V->List V->Hp->VK->Prop:=fun x vs H Q=>∃l b xs zs,x=.ref l/\vs=[.ref b]/\H l=some (.lst xs)/\H b=some (.lst zs)/\xs.length+zs.length<=sizeLine/\Q .bL (upd H l (.lst (xs++zs)))
theorem tf:wW X "list.extend" CI:=by
 intro pins s Gd H x vs v us Q I rx rv h
 obtain⟨l,b,xs,zs,rfl,rfl,hH,hB,hz,q⟩:=h
 cases rx
 obtain⟨u,rfl,ru⟩:=rv.one
 cases ru
 obtain⟨z,its,n,r,hl,e⟩:=I.uO hH
 obtain⟨z2,its2,n2,r2,hl2,e2⟩:=I.uO hB
 have hsz:its.toArray.size+its2.toArray.size<=sizeLine:=by rw [GF,GF];omega
 have hlong:¬(!its.toArray.isEmpty&&Builtin.List.listTooLong (its.toArray.size+its2.toArray.size))=true:=by
  rw [AJ hsz,Bool.and_false]
  exact GR
 refine call_meets F.slot_list_extend ⟨_,e,rfl⟩ F.entry_list_extend (F.args_list_extend_2 _ _)
  (AutoSeq1.list_extend_list_list_0 l its.toArray n b its2.toArray n2 hlong (by rw [GF];omega) (by omega)) ⟨e,e2,?_⟩
 refine⟨.bL,_,I.AI (its':=its++its2) hH e (by simp) (r.append r2) ?_,rfl,q⟩
 rw [Gr]
 omega
def FE:V->List V->Hp->VK->Prop:=fun x vs H Q=>∃l xs y,x=.ref l/\vs=[]/\H l=some (.lst xs)/\xs[xs.length-1]?=some y/\Q y (upd H l (.lst xs.dropLast))
theorem DO:wW X "list.pop" FE:=by
 intro pins s Gd H x vs v us Q I rx rv h
 obtain⟨l,xs,y,rfl,rfl,hH,hy,q⟩:=h
 cases rx
 have hus:=rv.zero
 subst hus
 obtain⟨z,its,n,r,hl,e⟩:=I.uO hH
 obtain⟨u,hu,ru⟩:=r.get hy
 have hy':its.toArray[its.toArray.size-1]?=some u:=by
  show its.toArray[its.length-1]?=some u
  rw [<-Ir,<-hl]
  exact hu
 refine call_meets F.slot_list_pop ⟨_,e,rfl⟩ F.entry_list_pop (F.args_list_pop_1 _) (MeetsSeq.list_pop_last l its.toArray n u hy' (by rw [GF];omega)) ⟨e,?_⟩
 refine⟨y,_,I.AI (its':=its.dropLast) hH e ?_ r.dropLast ?_,ru,q⟩
 ·show its.toArray.eraseIdxIfInBounds (its.toArray.size-1)=its.dropLast.toArray
  rw [GF,List.eraseIdxIfInBounds_toArray,xX]
 ·rw [List.length_dropLast]
  omega
end
section
variable {prog:Program}{w:World}{A:Around}{E:Value->Shared->Prop}{s:Shared}
end
section
variable {X:Cx}
end
end L2
namespace EY
open PySem PySem.W PySem.Calls PyProof.Rows
theorem qm {P:Params}{h:Heap}:∀(ns:List Int) (vs:List Value),WellAll P h vs (ns.map WData.int)->IntsAre vs ns:=by
 intro ns
 induction ns with
 | nil =>
  intro vs w
  rw [HG] at w
  cases w
  exact .nil
 | cons n ns ih =>
  intro vs w
  rw [GS] at w
  cases w with
  | cons a b =>
   cases a
   exact .cons _ _ (ih _ b)
theorem zi {l:OpenLaw}{n:Nat}(hn:l.most=some n){P:Params}{h:Heap}{args:List WData}{vals:List Value}
  (hpre:l.row.toRowW.claim.pre args=true) (hwl:WellAll P h vals args) :
  ∃a vs ns,vals=[Value.ref a]/\args=[WData.list (ns.map WData.int)]/\h.get? a=some { cls:=.type "list",data:=.seq vs.toArray }/\IntsAre vs ns/\ns.length<=n:=by
 have hsh:WShape.hasAll [] args [.list .int]=true:=(pre_splitW hpre).1
 have hc:l.pre.holds [] { args:=args }=true:=(pre_splitW hpre).2
 obtain⟨d,r,rfl,h1,h2⟩:=hasAllW_cons hsh
 obtain rfl:=hasAllW_nil h2
 obtain⟨xs,rfl,h3⟩:=hasW_list h1
 obtain⟨ns,rfl⟩:=items_int h3
 have hlen:ns.length<=n:=by
  unfold OpenLaw.pre at hc
  have h4:(WTm.not (.lt (.lit (.int (n:Int))) (.len (.arg 0)))).holds [] { args:=[.list (ns.map .int)] }=true:=by
   have h4:=(holds_andW hc).1
   rw [hn] at h4
   exact h4
  have h5:=condW_of h4 (w_not (w_lt w_lit (w_len_list (w_arg rfl))))
  rw [Gg] at h5
  refine Nat.le_of_not_lt fun q=>?_
  have q':(n:Int)<((ns.length:Nat):Int):=by omega
  first
   | (rw [decide_eq_true q'] at h5;exact absurd h5 (by decide))
   | (simp at h5;omega)
 cases hwl with
 | cons w1 w2 =>
  cases w2
  cases w1 with
  | list ho hall=>exact⟨_,_,ns,rfl,rfl,ho,qm ns _ hall,hlen⟩
theorem zj (l:OpenLaw)(args:List WData):l.row.toRowW.claim.post args (.bool true) args=true :=
 postW_of (r:=l.row.toRowW) (X:=(true == true))
  (show WShape.has [] (.bool true) .bool=true by first | rfl | decide | simp [WShape.has,WShape.arms,WShape.armsAll])
  (show (WTm.eq .res (.lit (.bool true))).value [] { args:=args,res:=some (.bool true),after:=args }=some (.bool (true == true)) from w_eq_bool (w_res rfl) w_lit) rfl
theorem vZ {l:OpenLaw}{n:Nat}{q:Program}{loose:List Str}{XP:(Str->Option Value)->Heap->Prop}{YP:World->Heap->Prop}{d:DefRec}
  (hn:l.most=some n) (hdf:d.params.defaults=[])
  (call:∀(w:World) (eU s₁ : Shared) (mg mb:Str->Option Value) (fa:Addr) (o:Obj) (pm cd doc:Value) (a:Addr) (vs:List Value) (ns:List Int),
   Ground q loose [] XP w eU mg mb s₁.heap->YP w s₁.heap ->
   s₁.heap.get? fa=some o->o.data=.func (docDef d.name d.params d.body d.scope pm cd doc)->s₁.heap.CodeRec cd d.name->mg d.name=some (.ref fa) ->
   s₁.heap.get? a=some { cls:=.type "list",data:=.seq vs.toArray }->IntsAre vs ns->ns.length<=n->s₁.gens = #[] ->
   codeAny (model l.prog w) callerA (.call (.ref fa) ⟨[.ref a],[]⟩) (fun r s'=>r=.ok (.ret (.bool true))/\OldK s₁.heap s'.heap/\s'.os=s₁.os/\AllBare s'.gens) s₁) :
  WalkO q loose XP YP l.row.toRowW d [] (fun f vs=>PySem.call f vs):=by
 intro w eU s₁ mg mb G Y fa o pm cd doc dV kV ho hd hcd hD hmg hg args vals as hpre hlay hrd hwl hlo
 obtain rfl:dV=.none:=Dflts.none hD hdf
 obtain rfl:kV=.none:=Dflts.noKw hD
 obtain⟨a,vs,ns,rfl,rfl,hobj,hints,hlen⟩:=zi hn hpre hwl
 refine enter_call (Jj (call w eU s₁ mg mb fa o pm cd doc a vs ns G Y ho (fd_plain hd) hcd hmg hobj hints hlen hg) fun r s' hq=>?_)
 obtain⟨rfl,h2,h3,h4⟩:=hq
 exact⟨.inl ⟨.bool true,.bool true,[],rfl,fun _=>rfl,.bool true,zj l _,fun _=>⟨Hy.nil,fun _ hm=>(nomatch hm)⟩⟩,h2,h3,h4⟩
section
variable {prog:Program}{w:World}{A:Around}{E:Value->Shared->Prop}{s:Shared}{K:Frag}
def ledger (h:Heap)(L d:Addr):List (Addr×Obj):=(GN h.objs.size).filterMap fun a=>if a=L\/a=d then none else (h.get? a).map fun o=>(a,o)
end
end EY
namespace L2
open PySem PySem.Spec PyProof.Rows
theorem m8:∀{vs:List Value} {ns:List Int},IntsAre vs ns->Vals (ns.map V.int) vs
 | _,_,.nil=>.nil
 | _,_,.cons n t h=>.cons ⟨t,rfl⟩ (m8 h)
def AK (H:Hp):Prop:=∀b,H b=none\/∃o xs,H b=some (.oH o (.lst xs))
theorem AL {P:Program}{w:World}{K:Gh}{mg mb:Str->Option Value}{CX:m6}{k:Nat}{fa a:Addr}{fd:FuncData}{x:Str}{sp:Sp}{s₁ : Shared}{vs:List Value}{ns:List Int}
    (KX:K.In s₁.heap) (hns:s₁.heap.Ns mainGlobals mg) (hb:s₁.heap.Ns builtinsNs mb) (hbb:∀x:Str,x ≠ "__name__" -> mb x=bootBuiltins x) (hlim:s₁.heap.NoLimit) (hg:s₁.gens = #[])
    (ha:s₁.heap.get? a=some { cls:=.type "list",data:=.seq vs.toArray }) (hi:IntsAre vs ns) (hl:ns.length<=sizeLine) (hr:cY k callerA)
    (F:∀base:Heap,K.In base->base.Ns mainGlobals mg->bh P w K mg base CX k fa fd [x] sp) (hbind:∀(s:Shared) (u:Value),BindsTo s fd ⟨[u],[]⟩ [(x,u)])
    (hsp:∀H:Hp,AK H->aY K H a (ns.map V.int)->sp [.ref a] H (fun v _=>v=.bl true) fun _ _ _=>False)
    (hCX:∀H e s',CX [] H s₁ (fun _ _ _=>False) e s'->False) :
    codeAny (model P w) callerA (.call (.ref fa) ⟨[.ref a],[]⟩) (fun r s'=>r=.ok (.ret (.bool true))/\OldK s₁.heap s'.heap/\s'.os=s₁.os/\AllBare s'.gens) s₁:=by
  have rv:=m8 hi
  have lenV:=hi.length
  have core:∀H:Hp,AK H->aY K H a (ns.map V.int)->eG P w H s₁.heap->(∀b,H b≠none->b=a)->(H a≠none->K.lookup a=none) ->
      codeAny (model P w) callerA (.call (.ref fa) ⟨[.ref a],[]⟩) (fun r s'=>r=.ok (.ret (.bool true))/\OldK s₁.heap s'.heap/\s'.os=s₁.os/\AllBare s'.gens) s₁:=by
    intro H hO hS aZ hA hK
    have base_of:∀{b:Addr} {o:Obj},s₁.heap.get? b=some o->H b=none->(ma s₁.heap H).get? b=some o:=fun e n=>Ao e n
    have noA:∀{b:Addr} {o:Obj} {es:Array DictEntry} {ep:Nat},s₁.heap.get? b=some o->o.data=.dict es ep->H b=none:=fun {b o es ep} e d=>by
      cases q:H b with
      | none=>rfl
      | some u =>
        have e':b=a:=hA b (by rw [q];simp)
        subst e'
        rw [ha] at e;cases e
        have d':Data.seq vs.toArray _=Data.dict es ep:=d
        cases d'
    have nsK:∀{b:Addr} {m:Str->Option Value},s₁.heap.Ns b m->(ma s₁.heap H).Ns b m:=fun {b m} ⟨o,es,ep,e,d,r⟩=>⟨o,es,ep,base_of e (noA e d),d,r⟩
    have hKb:K.In (ma s₁.heap H):=fun b o e=>base_of (KX b o e) (by
      cases q:H b with
      | none=>rfl
      | some u =>
        have e':b=a:=hA b (by rw [q];simp)
        subst e'
        rw [hK (by rw [q];simp)] at e;cases e)
    have hM:Mod K mg (ma s₁.heap H):=⟨hKb,nsK hns,⟨mb,nsK hb,hbb⟩,let ⟨mc,h1,h2⟩:=hlim;⟨mc,nsK h1,h2⟩⟩
    have e0:o8 P w K mg (ma s₁.heap H) callerA [] s₁ H:=⟨rfl,hM,fun b o e=>Cs e,Nat.le_of_eq (yW _ _),trivial,fun b hb=>absurd (show b∈([]:List Addr) from hb) (by simp),aZ,.of_eq hg⟩
    refine Jj ((F _ hKb (nsK hns)).run callerA [] s₁ H ⟨[.ref a],[]⟩ [.ref a] [.ref a] _ _ hr e0 (hbind s₁ (.ref a)) (.cons rfl .nil) (hsp H hO hS)) fun r s' h=>?_
    cases r with
    | error e=>exact (hCX H e s' h).elim
    | ok fl =>
      cases fl with
      | next=>exact False.elim h
      | brk=>exact False.elim h
      | cont=>exact False.elim h
      | ret u =>
        obtain⟨v,H',os,bare,un,hok',r',q⟩:=h
        have q':v=.bl true:=q
        subst q'
        obtain rfl:u=Value.bool true:=r'
        refine⟨rfl,OldK.of_keep fun b o e=>?_,os,bare⟩
        cases q:H b with
        | none=>exact un.keep b o e q (by intro z;exact absurd (show b∈([]:List Addr) from z) (by simp)) (by simp)
        | some u =>
          rcases hO b with z | ⟨ob,xs,z⟩
          . rw [q] at z;cases z
          . have z2:=un.lZ b ob _ z
            obtain⟨e1,_⟩:=aZ b _ z
            obtain⟨e2,_⟩:=hok' b _ z2
            rw [e] at e1;cases e1
            exact e2
  cases hk:K.lookup a with
  | some o =>
    have e:=KX a o hk
    rw [ha] at e
    cases e
    refine core (fun _=>none) (fun _=>.inl rfl) (.inr ⟨_,vs.toArray,_,hk,rfl,rfl,rfl,by rw [GF,lenV];exact hl,by simpa using rv⟩) (fun b u z=>by have z':(none:Option HO)=some u:=z;cases z') (fun b z=>absurd rfl z) fun z=>absurd rfl z
  | none =>
    refine core (fun b=>if b=a then some (.oH { cls:=.type "list",data:=.seq vs.toArray } (.lst (ns.map V.int))) else none) (fun b=>?_) (.inl (.inr ⟨{ cls:=.type "list",data:=.seq vs.toArray },if_pos rfl⟩)) (fun b u z=>?_) (fun b z=>?_) fun _=>hk
    . by_cases hb:b=a
      . exact .inr ⟨_,_,if_pos hb⟩
      . exact .inl (if_neg hb)
    . by_cases hb:b=a
      . have z':=(if_pos hb).symm.trans z
        cases z'
        subst hb
        exact⟨ha,by rw [Gg];exact hl,vs,_,rv,ha⟩
      . have z':=(if_neg hb).symm.trans z
        cases z'
    . by_cases hb:b=a
      . exact hb
      . exact absurd (if_neg hb) z
abbrev KOf {K:Gh}{h:Heap}(_:K.In h):Gh:=K
theorem CJ {l:PySem.W.OpenLaw}{n k:Nat}{q:Program}{loose:List Str}{XP:(Str->Option Value)->Heap->Prop}{YP:World->Heap->Prop}{d:DefRec}{K:Params->Gh}{CX:World->m6}{sp:World->Sp}{x:Str}
  (hn:l.most=some n) (hn2:n<=sizeLine) (hdf:d.params.defaults=[]) (hr:cY k callerA)
  (hY:∀(w:World) (h:Heap),YP w h->(K w.params).In h)
  (F:∀(w:World) (mg:Str->Option Value) (fa:Addr) (h:Heap),(K w.params).In h->h.Ns mainGlobals mg->mg d.name=some (.ref fa) ->
   ∃fd:FuncData,(∀(s:Shared) (u:Value),BindsTo s fd ⟨[u],[]⟩ [(x,u)]) /\
    ∀base:Heap,(K w.params).In base->base.Ns mainGlobals mg->bh l.prog w (K w.params) mg base (CX w) k fa fd [x] (sp w))
  (hsp:∀(w:World) (H:Hp) (a:Addr) (ns:List Int),ns.length<=n->AK H->aY (K w.params) H a (ns.map V.int)->sp w [.ref a] H (fun v _=>v=.bl true) fun _ _ _=>False)
  (hCX:∀(w:World) (H:Hp) (s:Shared) (e:Value) (s':Shared),CX w [] H s (fun _ _ _=>False) e s'->False) :
  PySem.W.WalkO q loose XP YP l.row.toRowW d [] (fun f vs=>PySem.call f vs):=by
 refine EY.vZ hn hdf fun w eU s₁ mg mb fa o pm cd doc a vs ns G Y ho hd hcd hmg hobj hints hlen hg=>?_
 have KX:=hY w _ Y
 obtain⟨fd,hb,hF⟩:=F w mg fa _ KX G.T.g hmg
 exact AL KX G.T.g G.T.b G.T.builtins G.T.nolimit hg hobj hints (Gy hlen hn2) hr hF hb (fun H hO hS=>hsp w H a ns hlen hO hS) fun H e s'=>hCX w H s₁ e s'
def inClass (s:Stmt)(j:Nat):Stmt:=match s with
 | .ClassDef _ _ _ body _ _ _ _ _ _ _=>body.getD j (.Pass ⟨0,0,0,0⟩)
 | _=>.Pass ⟨0,0,0,0⟩
def aL (s:Stmt):Arguments:=match s with
 | .FunctionDef _ a _ _ _ _ _ _ _ _=>a
 | _=>{ posonlyargs:=[],args:=[],vararg:=none,kwonlyargs:=[],kw_defaults:=[],kwarg:=none,defaults:=[] }
def aJ (s:Stmt):List Stmt:=match s with
 | .FunctionDef _ _ b _ _ _ _ _ _ _=>b
 | _=>[]
def au (s:Stmt):Scope:=match s with
 | .FunctionDef _ _ _ _ _ _ sc _ _ _=>sc
 | _=>{ kind:=.function,names:=[],isGenerator:=false,isCoroutine:=false }
abbrev bQ:m6:=fun _ _ _ _ _ _=>False
abbrev E0:XK:=fun _ _ _=>False
theorem ur {X:Cx}:Passes bQ X E0:=fun _ _ _ _ _ _ _ h=>h.elim
structure bS (K:Gh) (x qual:Str) (st:Stmt) (f:Addr) (fd:FuncData):Prop where
 ex:∃(oc:Value) (od:Option Addr) (kV doc pm:Value) (an:Option Addr) (cdv ct:Value) (osl:Array (Option Value)),
  fd=Gk x qual (aL st) (aJ st) (au st) .none kV doc pm an cdv ct/\K.lookup f=some ⟨oc,od,.func fd,osl⟩/\Gm K cdv qual=true
 kp:Gj K (.ref f)=true
section
variable {P:Program}{w:World}{K:Gh}{mg:Str->Option Value}{base:Heap}
theorem bS.ok {x qual:Str}{st:Stmt}{f:Addr}{fd:FuncData}{N ps:List Str}{k:Nat}{sp:Sp}(F:bS K x qual st f fd)(S:aO N ps (au st))(len:∀vs H Q E,sp vs H Q E->vs.length=ps.length)
  (hbody:∀(cdv:Value) (A:Around) (outer:List Env) (s:Shared) (H:Hp) (vs:List V) (Q:VK) (E:XK),cY k (A.deeper (envOfC qual (au st) s.heap.objs.size f cdv))->sp vs H Q E ->
   ∃t,kJ (o9 bQ P w K mg base N qual (au st) f cdv A outer s H E).wK (aJ st) t/\t { nx:=fun _ H'=>Q .bL H',rt:=Q } (start N vs) H):bh P w K mg base bQ (k+1) f fd ps sp:=by
 obtain⟨oc,od,kV,doc,pm,an,cdv,ct,osl,rfl,lk,hcd⟩:=F.ex
 refine B7 lk hcd S len fun A outer s H vs Q E hr hsp=>?_
 obtain⟨t,h,q⟩:=hbody cdv A outer s H vs Q E hr hsp
 exact⟨t,h.wK,q⟩
theorem bS.binds {x qual:Str}{st:Stmt}{f:Addr}{fd:FuncData}{ps:List Str}(F:bS K x qual st f fd)
  (h:∀(kV doc pm:Value) (an:Option Addr) (cdv ct:Value) (us:List Value),us.length=ps.length->bindArgs (Gk x qual (aL st) (aJ st) (au st) .none kV doc pm an cdv ct) ⟨us,[]⟩=pure (ps.zip us)):Binds K fd ps []:=by
 obtain⟨oc,od,kV,doc,pm,an,cdv,ct,osl,rfl,lk,hcd⟩:=F.ex
 exact .all (h kV doc pm an cdv ct)
theorem ba {x qual:Str}{st:Stmt}{f:Addr}{oc:Value}{od an:Option Addr}{osl:Array (Option Value)}{kV doc pm cdv ct:Value}(l:K.lookup f=some ⟨oc,od,.func (Gk x qual (aL st) (aJ st) (au st) .none kV doc pm an cdv ct),osl⟩)
  (c:Gm K cdv qual=true) (k:Gj K (.ref f)=true):bS K x qual st f (Gk x qual (aL st) (aJ st) (au st) .none kV doc pm an cdv ct):=⟨⟨oc,od,kV,doc,pm,an,cdv,ct,osl,rfl,l,c⟩,k⟩
end
theorem dn {A:Around}{k:Nat}(hr:cY k A):A.units+1<cLine:=HH (Nat.add_le_add_left (by decide:1<=64) _) hr.units
theorem bF {n:Nat}(h:n<=1000):n<sizeLine:=HH h (by decide)
section
variable {X:Cx}
theorem pv (i:Nat){x:Str}{pos:Pos}(hN:X.N[i]?=some x:=by rfl)(hv:BQ X.env.scope x:=by first | exact Gf rfl | exact GO (Gf rfl) | exact GO (GO rfl))(hd:(x == ("__debug__" : Str))=false:=by decide)
  (hcd:(x == ("__classdict__" : Str))=false:=by decide):PE X (.Name x pos) (Dq i):=Dr hN hv hd hcd
end
theorem cq {A B:Prop}(h:B):if false=true then A else B:=by
 rw [if_neg GR]
 exact h
theorem cD {A B:Prop}(h:A):if true=true then A else B:=by
 rw [if_pos rfl]
 exact h
theorem cZ {c A B:Prop}[Decidable c](h1:c->A)(h2:¬c->B):if c then A else B:=by
 by_cases h:c
 ·rw [if_pos h]
  exact h1 h
 ·rw [if_neg h]
  exact h2 h
def ar (H H':Hp):Prop:=∀b o,H b=some o->H' b=some o
theorem ar.refl (H:Hp):ar H H:=fun _ _ h=>h
theorem ar.trans {H H1 H2:Hp}(a:ar H H1)(b:ar H1 H2):ar H H2:=fun c o h=>b c o (a c o h)
theorem ar.free {H H':Hp}(e:ar H H'){l:Addr}(h:H' l=Option.none):H l=Option.none:=by
 cases q:H l with
 | none=>rfl
 | some o =>
  rw [e l o q] at h
  cases h
theorem ar.seq {K:Gh}{H H':Hp}{a:Addr}{xs:List V}(e:ar H H')(h:aY K H a xs):aY K H' a xs:=by
 rcases h with (h | ⟨o,h⟩) | h
 ·exact .inl (.inl (e _ _ h))
 ·exact .inl (.inr ⟨o,e _ _ h⟩)
 ·exact .inr h
section
variable {X:Cx}
theorem CK:fq X (binaryOp .Mult) (rI IntMulOk fun i j=>.int (i*j)):=wN fun _ _ _ _ _ _ _ hc q=>mul_int q hc
def EF (_i j:Int):Prop:=0<j/\j.natAbs.log2<9000
theorem AM:fq X (binaryOp .FloorDiv) (rI EF fun i j=>.int (i / j)):=wN fun i j _ _ _ _ _ hc q=>by
 have h1:(0:Int)<j:=hc.1
 exact floordiv_int (by omega) (by rw [Int.fdiv_eq_ediv_of_nonneg i (by omega)];exact q) (.inl (PyProof.noPylong_of_log2 hc.2))
structure Own (P:Program) (w:World) (K:Gh) (mg:Str->Option Value) (base:Heap) (x:Str) (k:Nat) (ps:List Str) (sp:Sp):Prop where
 ex:∃f fd,bh P w K mg base bQ k f fd ps sp/\mg x=some (.ref f)/\Gj K (.ref f)=true/\Binds K fd ps []
variable {x:Str}{k:Nat}{ps:List Str}{sp:Sp}{e:Expr}{es:List Expr}{t:TA}{p pos:Pos}
theorem aB (o:Own X.prog X.w X.K X.mg X.base x k ps sp)(hr:cY k X.A)(hg:Gl X x)(ha:PA X (e::es) t)
  (hdb:(x == ("__debug__" : Str))=false:=by decide) (he:starEach (e::es) X.env=(false,eval e X.env)::starEach es X.env:=by rfl)
  (hpl:(backTo pos (starEach es X.env)).any (·.1)=false:=by rfl):PE X (.Call (.Name x p) (e::es) [] pos) (BZ sp [] E0 t):=by
 obtain⟨f,fd,F,hm,hk,hb⟩:=o.ex
 exact Cy F hr hg hm hk hb .nil ur ha hdb he hpl
end
theorem bM {α : Type}{x:α}{xs:List α}:fw (x::xs) 0=some x:=bI (j:=0) rfl
theorem cW {α : Type}{x y:α}{xs:List α}:fw (x::y::xs) 1=some y:=bI (j:=1) rfl
theorem at2 {α : Type}{x y z:α}{xs:List α}:fw (x::y::z::xs) 2=some z:=bI (j:=2) rfl
theorem xY {α : Type}{xs:List α}{i:Int}(h0:0<=i)(h1:i<xs.length):∃v,fw xs i=some v/\v∈xs:=by
 obtain⟨j,rfl⟩:∃j:Nat,i=j:=⟨i.toNat,by omega⟩
 have hj:j<xs.length:=by omega
 exact⟨xs[j],bI (by simp [hj]),Hz hj⟩
theorem bT:bootBuiltins "len" = some (.builtin "len"):=by decide +kernel
theorem qo:bootBuiltins "min" = some (.builtin "min"):=by decide +kernel
theorem zk:bootBuiltins "max" = some (.builtin "max"):=by decide +kernel
theorem zl:bootBuiltins "int" = some (.type "int"):=by decide +kernel
theorem cb:bootBuiltins "tuple" = some (.type "tuple"):=by decide +kernel
theorem wX:bootBuiltins "list" = some (.type "list"):=by decide +kernel
def cQ (H:Hp)(b:Addr):Prop:=∃x y:Int,H b=some (.lst [.int x,.int y])/\0<=y/\y<2147483648
def Fix (b:Addr)(H H':Hp):Prop:=∀c o,H c=some o->c≠b->H' c=some o
theorem Fix.trans {b:Addr}{H H1 H2:Hp}(u:Fix b H H1)(v:Fix b H1 H2):Fix b H H2:=fun c o h n=>v c o (u c o h n) n
theorem Fix.Cb {b:Addr}{H:Hp}{o:HO}:Fix b H (upd H b o):=fun c u h n=>by rw [ai n];exact h
theorem Fix.new {b p:Addr}{H:Hp}{o:HO}(hp:H p=none):Fix b H (upd H p o):=fun c u h _=>by rw [ai (aw h hp)];exact h
theorem Fix.of_same {b:Addr}{H H':Hp}(h:ar H H'):Fix b H H':=fun c o e _=>h c o e
theorem ar.new {p:Addr}{H:Hp}{o:HO}(hp:H p=none):ar H (upd H p o):=fun c u h=>by rw [ai (aw h hp)];exact h
theorem cQ.new {b p:Addr}{H:Hp}{o:HO}(h:cQ H b)(hp:H p=none):cQ (upd H p o) b:=by
 obtain⟨x,y,e,q⟩:=h
 exact⟨x,y,by rw [ai (aw e hp)];exact e,q⟩
theorem cQ.same {b:Addr}{H H':Hp}(h:cQ H b)(s:ar H H'):cQ H' b:=by
 obtain⟨x,y,e,q⟩:=h
 exact⟨x,y,s _ _ e,q⟩
theorem wY {α : Type}{x0:α}:[x0].length<=sizeLine:=by show 1<=sizeLine;decide
theorem ln2 {α : Type}{x0 x1:α}:[x0,x1].length<=sizeLine:=by show 2<=sizeLine;decide
theorem uP {α : Type}{x0 x1 x2:α}:[x0,x1,x2].length<=sizeLine:=by show 3<=sizeLine;decide
theorem FX {α : Type}{x0 x1 x2 x3 x4:α}:[x0,x1,x2,x3,x4].length<=sizeLine:=by show 5<=sizeLine;decide
theorem m9 {α : Type}{x0 x1 x2 x3 x4 x5 x6:α}:[x0,x1,x2,x3,x4,x5,x6].length<=sizeLine:=by show 7<=sizeLine;decide
theorem ar.uQ {b:Addr}{H H1 H2:Hp}(s:ar H H1)(n:H b=none)(f:Fix b H1 H2):ar H H2:=fun c o e=>f c o (s c o e) (aw e n)
theorem cQ.lK {b p:Addr}{H:Hp}{xs:List V}(h:cQ H b)(e:H p=some (.tup xs)):p≠b:=by
 obtain⟨x,y,e1,_⟩:=h
 exact bB e e1 (by intro z;cases z)
theorem cQ.eV {b p:Addr}{H:Hp}(h:cQ H b)(e:H p=none):p≠b:=by
 obtain⟨x,y,e1,_⟩:=h
 exact fun z=>aw e1 e z.symm
def xZ (K:Gh):Sp:=fun vs H Q _=>∃(a:Addr) (ns:List Int) (k:Int),vs=[.ref a,.int k]/\aY K H a (ns.map V.int)/\0<=k /\
 ∀b H',H b=none->cQ H' b->ar H H'->Q (.ref b) H'
def gI:Sp:=fun vs H Q _=>∃(b:Addr) (m:Int),vs=[.ref b,.int m]/\cQ H b/\(0<m/\m.natAbs.log2<9000) /\
 ∀r H',0<=r->r<m->cQ H' b->Fix b H H'->Q (.int r) H'
def uu (K:Gh):Sp:=fun vs H Q _=>∃(a:Addr) (ns:List Int),vs=[.ref a]/\aY K H a (ns.map V.int)/\ns.length<=63/\∀H',Q (.bl true) H'
def lL (cells:List (Str×Addr)):List (Str×NameKind)->List (Str×Addr)->List (Str×Addr)
 | [],cs=>cs
 | (n,k)::r,cs=>lL cells r (if k == .free then (n,(cells.lookup n).getD 0)::cs else cs)
theorem qp {scope:Scope}{env:Env}(hf:∀y∈scope.names,y.2=.free->∃c,env.cells.lookup y.1=some c):closureFor scope env=pure (lL env.cells scope.names []):=by
 have key:∀(names:List (Str×NameKind)) (cs:List (Str×Addr)),(∀y∈names,y.2=.free->∃c,env.cells.lookup y.1=some c) ->
   (forIn names cs fun x r=>match x with
    | (name,kind)=>if (kind == NameKind.free)=true then (do let a <-cellOf env name;pure (ForInStep.yield ((name,a)::r))) else pure (ForInStep.yield r):Sem (List (Str×Addr)))=pure (lL env.cells names cs):=by
  intro names
  induction names with
  | nil=>intro cs _;rfl
  | cons y r ih =>
   intro cs hy
   obtain⟨n,k⟩:=y
   have ih':=fun cs=>ih cs fun z hz=>hy z (GC _ hz)
   rw [HA]
   by_cases hk:(k == NameKind.free)=true
   ·have e:k=.free:=by simpa using hk
    obtain⟨c,hc⟩:=hy (n,k) GB e
    have hc':env.cells.lookup n=some c:=hc
    simp only [hk,if_true,cellOf,hc',pure_bind,lL,Option.getD_some]
    exact ih' _
   ·have hk':(k == NameKind.free)=false:=by simpa using hk
    simp only [hk',Hk,if_false,pure_bind,lL]
    exact ih' _
 unfold closureFor
 have e:=key scope.names [] hf
 show ((forIn scope.names ([]:List (Str×Addr)) fun x r=>match x with
    | (name,kind)=>if (kind == NameKind.free)=true then (do let a <-cellOf env name;pure (ForInStep.yield ((name,a)::r))) else pure (ForInStep.yield r):Sem (List (Str×Addr))) >>= fun r=>pure r)=_
 rw [e,pure_bind]
theorem nc {cells:List (Str×Addr)}:∀(names:List (Str×NameKind)) (cs:List (Str×Addr)),(∀y∈names,y.2=.free->∃c,cells.lookup y.1=some c) ->
  (∀x c,cs.lookup x=some c->cells.lookup x=some c)->∀x c,(lL cells names cs).lookup x=some c->cells.lookup x=some c
 | [],_,_,h,x,c,e=>h x c e
 | (n,k)::r,cs,hf,h,x,c,e=>by
  refine nc r _ (fun y hy=>hf y (GC _ hy)) (fun z d hz=>?_) x c e
  by_cases hk:(k == NameKind.free)=true
  ·rw [if_pos hk] at hz
   obtain⟨c',hc⟩:=hf (n,k) GB (by simpa using hk)
   have hc':cells.lookup n=some c':=hc
   rw [Hl] at hz
   cases hzn:z == n with
   | true =>
    rw [hzn] at hz
    have:z=n:=by simpa using hzn
    subst this
    rw [hc'] at hz ⊢
    simpa using hz
   | false=>rw [hzn] at hz;exact h z d hz
  ·rw [if_neg hk] at hz;exact h z d hz
theorem rG {cells:List (Str×Addr)}{x:Str}:∀(names:List (Str×NameKind)) (cs:List (Str×Addr)),((x,NameKind.free)∈names\/∃c,cs.lookup x=some c)->∃c,(lL cells names cs).lookup x=some c
 | [],_,h=>by
  rcases h with h | h
  ·cases h
  ·exact h
 | (n,k)::r,cs,h=>by
  refine rG r _ ?_
  by_cases hk:(k == NameKind.free)=true
  ·rw [if_pos hk]
   cases hxn:x == n with
   | true=>exact .inr ⟨_,by rw [Hl,hxn]⟩
   | false =>
    rcases h with h | ⟨c,h⟩
    ·rcases Gu.mp h with h | h
     ·have:x=n:=(Prod.mk.inj h).1
      subst this
      simp at hxn
     ·exact .inl h
    ·exact .inr ⟨c,by rw [Hl,hxn];exact h⟩
  ·rw [if_neg hk]
   rcases h with h | h
   ·rcases Gu.mp h with h | h
    ·have:NameKind.free=k:=(Prod.mk.inj h).2
     subst this
     simp at hk
    ·exact .inl h
   ·exact .inr h
theorem kn {env:Env}{x:Str}{k:NameKind}(hk:k=.cell\/k=.free):∀{names:List (Str×NameKind)},(∀y∈names,y.2≠.cell) ->
  (names.map fun (n,k)=>if (k == NameKind.free&&env.scope.kind == .function&&env.kindOf n == some .cell) then (n,NameKind.cell) else (n,k)).lookup x=some k->(x,NameKind.free)∈names
 | [],_,h=>by simp at h
 | (n,q)::r,hc,h=>by
  have ih:=kn (env:=env) (x:=x) hk (names:=r) (fun y hy=>hc y (GC _ hy))
  have h':Hd x ((if (q == NameKind.free&&env.scope.kind == .function&&env.kindOf n == some .cell)=true then (n,NameKind.cell) else (n,q))::_)=some k:=h
  by_cases hq:(q == NameKind.free&&env.scope.kind == .function&&env.kindOf n == some .cell)=true
  ·rw [if_pos hq,Hl] at h'
   have eq:q=.free:=by
    rw [G5,G5] at hq
    simpa using hq.1.1
   cases hxn:x == n with
   | true =>
    have:x=n:=by simpa using hxn
    subst this;subst eq
    exact GB
   | false=>rw [hxn] at h';exact GC _ (ih h')
  ·rw [if_neg hq,Hl] at h'
   cases hxn:x == n with
   | true =>
    rw [hxn] at h'
    have:x=n:=by simpa using hxn
    subst this
    have e:q=k:=GL.inj h'
    subst e
    rcases hk with hk | hk
    ·exact absurd hk (hc (x,q) GB)
    ·subst hk;exact GB
   | false=>rw [hxn] at h';exact GC _ (ih h')
theorem ng {env:Env}{x:Str}:∀{names:List (Str×NameKind)},names.lookup x=some .free ->
  (names.map fun (n,k)=>if (k == NameKind.free&&env.scope.kind == .function&&env.kindOf n == some .cell) then (n,NameKind.cell) else (n,k)).lookup x=some .cell \/
  (names.map fun (n,k)=>if (k == NameKind.free&&env.scope.kind == .function&&env.kindOf n == some .cell) then (n,NameKind.cell) else (n,k)).lookup x=some .free
 | [],h=>by simp at h
 | (n,q)::r,h=>by
  have ih:=ng (env:=env) (x:=x) (names:=r)
  show Hd x ((if (q == NameKind.free&&env.scope.kind == .function&&env.kindOf n == some .cell)=true then (n,NameKind.cell) else (n,q))::_)=some .cell \/
   Hd x ((if (q == NameKind.free&&env.scope.kind == .function&&env.kindOf n == some .cell)=true then (n,NameKind.cell) else (n,q))::_)=some .free
  rw [Hl] at h
  by_cases hq:(q == NameKind.free&&env.scope.kind == .function&&env.kindOf n == some .cell)=true
  ·rw [if_pos hq,Hl]
   cases hxn:x == n with
   | true=>exact .inl rfl
   | false=>rw [hxn] at h;exact ih h
  ·rw [if_neg hq,Hl]
   cases hxn:x == n with
   | true=>rw [hxn] at h;exact .inr h
   | false=>rw [hxn] at h;exact ih h
def iN (X:Cx)(scope:Scope)(C:Addr)(N':List Str)(fp:List Addr)(s₁ : Shared)(H₁ : Hp):Cx where
 prog:=X.prog
 w:=X.w
 K:=X.K
 mg:=X.mg
 base:=X.base
 A:=X.A
 N:=N'
 eU:=s₁
 uz:=H₁
 env:=compEnvC scope (lL X.env.cells scope.names []) C X.env
 outer:=X.stack
 stack:=X.stack
 ex:=fp
 fn:=fun _=>false
 calm:=X.calm
 pn:=[]
 xe:=fun _ _=>False
def iZ (X:Cx)(scope:Scope):List Str->List Nat->Prop
 | [],[]=>True
 | x::fr,j::js=>(X.N[j]?=some x/\(X.env.kindOf x=some .cell\/X.env.kindOf x=some .free)/\scope.names.lookup x=some .free)/\iZ X scope fr js
 | _,_=>False
theorem iZ.len {X:Cx}{scope:Scope}:∀{fr:List Str} {js:List Nat},iZ X scope fr js->fr.length=js.length
 | [],[],_=>rfl
 | _::_,_::_,h=>by simp [iZ.len h.2]
 | [],_::_,h=>h.elim
 | _::_,[],h=>h.elim
theorem iZ.mem {X:Cx}{scope:Scope}{x:Str}:∀{fr:List Str} {js:List Nat},iZ X scope fr js->x∈fr->X.env.kindOf x=some .cell\/X.env.kindOf x=some .free
 | [],[],_,h=>by cases h
 | a::fr,b::js,h,hm=>by
  rcases Gu.mp hm with rfl | hm
  ·exact h.1.2.1
  ·exact iZ.mem h.2 hm
 | [],_::_,h,_=>h.elim
 | _::_,[],h,_=>h.elim
theorem iZ.get {X:Cx}{scope:Scope}:∀{fr:List Str} {js:List Nat} {i:Nat} {x:Str} {j:Nat},iZ X scope fr js->fr[i]?=some x->js[i]?=some j ->
  X.N[j]?=some x/\(X.env.kindOf x=some .cell\/X.env.kindOf x=some .free)/\scope.names.lookup x=some .free
 | [],[],_,_,_,_,h,_=>by simp at h
 | a::fr,b::js,0,x,j,h,h1,h2=>by
  simp at h1 h2
  subst h1;subst h2
  exact h.1
 | a::fr,b::js,i+1,x,j,h,h1,h2=>iZ.get h.2 (by simpa using h1) (by simpa using h2)
 | [],_::_,_,_,_,h,_,_=>h.elim
 | _::_,[],_,_,_,h,_,_=>h.elim
def oO (n:Nat)(js:List Nat)(Gd : St):St:=Io n none++js.map fun j=>Gd.getD j none
theorem DP {X:Cx}{pins:List (Addr×Obj)}{Gd : St}{H:Hp}{s:Shared}{scope:Scope}{fp:List Addr}{C:Addr}{N':List Str}(I:Inv X pins Gd H s)(hk:scope.kind=.function)(hcell:∀y∈scope.names,y.2≠.cell)
  (hf:∀y∈scope.names,y.2=.free->∃c,X.env.cells.lookup y.1=some c) (hC:s.heap.objs.size<=C) (hfp:∀b∈fp,ke X pins H b) (hlt:∀b∈fp,b<s.heap.objs.size):(iN X scope C N' fp s H).Ok:=by
 have ag:∀x c,(lL X.env.cells scope.names []).lookup x=some c->X.env.cells.lookup x=some c:=nc scope.names [] hf fun x c e=>by simp at e
 refine⟨I.ok.mod,hk,I.ok.glob,I.ok.blt,hC,fun x y c h1 h2=>I.ok.inj x y c (ag x c h1) (ag y c h2),fun x hx=>?_,(fun x c h=>(by cases h)),I.ok.hd,I.ok.frames,.inl rfl,fun b hb=>?_,I.bs,?_,fun b o e hb=>?_,fun b hb=>?_,I.stack,I.wI⟩
 ·refine rG scope.names [] (.inl ?_)
  rcases hx with hx | hx
  ·exact kn (.inl rfl) hcell hx
  ·exact kn (.inr rfl) hcell hx
 ·obtain⟨h1,h2,h3,h4,h5,h6⟩:=hfp b hb
  exact⟨Gw (GV (hlt b hb) hC),fun x c e=>h5 x c (ag x c e)⟩
 ·exact Gy I.ok.p8 I.sz
 ·obtain⟨h1,h2,h3,h4,h5,h6⟩:=hfp b hb
  rcases h4 with h4 | h4
  ·exact I.ok.uA b o e h4
  ·exact absurd (GV (Gq e) (Gy I.ok.p8 h4)) (GY _)
 ·obtain⟨h1,h2,h3,h4,h5,h6⟩:=hfp b hb
  intro z
  rcases Gu.mp (I.p9 b z) with z | z
  ·exact h2 z
  ·exact h3 z
def wZ (J:It)(n:Nat)(js:List Nat)(g:TG)(ct:TT)(te:TE)(acc:Addr)(Gd : St)(H1:Hp)(Q:VK):Prop :=
 ∃W:Nat->Nat->List V->St->Hp->Prop,(∃m,W 0 m [] (oO n js Gd) (upd H1 acc (.lst [])))/\∀i m ys Ge H2,W i m ys Ge H2->H2 acc=some (.lst ys)/\ys.length<sizeLine /\
  ((J.stop i H2/\Q (.ref acc) H2)\/(J.go i H2/\∃N:List V->St->Hp->Prop,(∀ys' τ' H',N ys' τ' H'->∃m',m' < m/\W (i+1) m' ys' τ' H')/\∀x H3,J.y4 i H2 x H3->g x Ge H3 fun τ1 H4=>ct τ1 H4 fun b H5 =>
   if b=true then te τ1 H5 fun y H6=>H6 acc=some (.lst ys)/\N (ys++[y]) τ1 (upd H6 acc (.lst (ys++[y]))) else N ys τ1 H5))
def EZ (n:Nat)(js:List Nat)(wi:TI)(g:TG)(ct:TT)(te:TE):TE:=fun Gd H Q=>wi Gd H fun J H1=>∀acc,H1 acc=none->wZ J n js g ct te acc Gd H1 Q
def zm (X:Cx)(ifs:List Expr)(t:TT):Prop :=
 ∀(pins:List (Addr×Obj)) (s:Shared) (Gd : St) (H:Hp) (Q:Bool->Hp->Prop),Inv X pins Gd H s->t Gd H Q ->
  wpAny (model X.prog X.w) X.A (forIn ifs true fun c r=>if r=true then do let ok <-isTrue c X.env (eval c X.env);pure (ForInStep.yield ok) else pure (ForInStep.yield r)) (TP X pins Gd Q) X.xe s
def DQ:TT:=fun _ H Q=>Q true H
theorem gf {X:Cx}:zm X [] DQ:=fun _ _ Gd H Q I h=>I0 ⟨H,I,h⟩
theorem rH {X:Cx}{c:Expr}{t:TT}(h:PT X c t):zm X [c] t:=by
 intro pins s Gd H Q I q
 rw [HA]
 simp only [if_true,bind_assoc,pure_bind]
 refine IZ (bo (h pins s Gd H Q I q) fun b s1 h1=>?_)
 exact I0 h1
section
variable {X:Cx}{pos:Pos}
theorem mV {prog:Program}{w:World}{A:Around}{R:Result->Shared->Prop}{s:Shared}{elt target iter:Expr}{ifs:List Expr}{scope:Scope}{pos:Pos}{it acc:Value}{env:Env}(I:Nat->Shared->Prop)
  (turn:∀n s,I n s->wpAny (model prog w) A (pyNext it) (fun r s₁=>match r with
   | none=>R (.ok .next) s₁
   | some v=>wpAny (model prog w) A (letOwnedTupleGo target it v) (fun _ s₁'=>wpAny (model prog w) A (assign target env v) (fun _ s₂ =>
     wpAny (model prog w) A (forIn ifs true fun c r=>if r=true then do let ok <-isTrue c env (eval c env);pure (ForInStep.yield ok) else pure (ForInStep.yield r)) (fun ok s₃ =>
      if ok=true then wpAny (model prog w) A (eval elt env) (fun x s₄ =>
       wpAny (model prog w) A (call (.builtin "list.append") [acc,x]) (fun _ s₅=>∃m,m<n/\I m s₅) (fun _ _=>False) s₄) (fun _ _=>False) s₃
      else ∃m,m<n/\I m s₃) (fun _ _=>False) s₂) (fun _ _=>False) s₁') (fun _ _=>False) s₁) (fun _ _=>False) s)
  (n:Nat) (h:I n s) :
  codeAny (model prog w) A (.compLoop (.ListComp elt [⟨target,iter,ifs,0⟩] scope pos) 0 it acc env) R s:=by
 refine codeAny_loop rfl I (fun n s hI=>?_) n h
 show wpAny _ A ((compTurn (.ListComp elt [⟨target,iter,ifs,0⟩] scope pos) 0 it acc env).onRaise (fun x=>do noteFrame x env;theTreesLotGoes x)) _ _ s
 refine wpAny_noted ?_
 rw [compTurn_list]
 refine IZ (Jp (IZ (Ja (turn n s hI) (fun r s₁ h₁=>?_) fun _ _ h'=>h'.elim)))
 cases r with
 | none=>exact I0 h₁
 | some v =>
  refine IZ (Ja h₁ (fun _ s₁' h₁'=>?_) fun _ _ h'=>h'.elim)
  refine IZ (Ja h₁' (fun _ s₂ h₂=>IZ (Ja h₂ (fun ok s₃ h₃=>?_) fun _ _ h'=>h'.elim)) fun _ _ h'=>h'.elim)
  cases ok with
  | false=>exact I0 ⟨rfl,h₃⟩
  | true =>
   exact IZ (IZ (Ja h₃ (fun x s₄ h₄=>IZ (Ja h₄ (fun _ s₅ h₅=>I0 (I0 ⟨rfl,h₅⟩)) fun _ _ h'=>h'.elim)) fun _ _ h'=>h'.elim))
theorem w5 {pins:List (Addr×Obj)}{Gd : St}{H:Hp}{s:Shared}{E:Value->Shared->Prop}{tg elt iter:Expr}{ifs:List Expr}{scope:Scope}{g:TG}{ct:TT}{te:TE}{ts fr:List Str}{js:List Nat}
    {it:Addr} {fp:List Addr} {tn:Nat->Heap->Prop} {J:It} {Q:VK} {RR:Value->Addr->Result->Shared->Prop}
    (hc:X.calm=true) (hkind:scope.kind=.function) (hcell:∀y∈scope.names,y.2≠.cell) (hfree:∀y∈scope.names,y.2=.free->X.env.kindOf y.1=some .cell\/X.env.kindOf y.1=some .free)
    (hfr:iZ X scope fr js) (htg:∀C fp s₁ H₁,PG (iN X scope C (ts++fr) fp s₁ H₁) tg g) (hct:∀C fp s₁ H₁,zm (iN X scope C (ts++fr) fp s₁ H₁) ifs ct) (hte:∀C fp s₁ H₁,PE (iN X scope C (ts++fr) fp s₁ H₁) elt te)
    (I:Inv X pins Gd H s) (T:Turn X.prog X.w X.K tg J fp it tn) (st:tn 0 s.heap) (hfp:∀b∈fp,ke X pins H b)
    (h:∀acc,H acc=none->wZ J ts.length js g ct te acc Gd H Q)
    (hRR:∀acc C H' s' m,Inv X pins Gd H' s'->s'.heap.Ns C m->H' C=none->s.heap.objs.size<=C->Q (.ref acc) H'->RR (.ref acc) C (.ok .next) s') :
    wpAny (model X.prog X.w) X.A (newList []) (fun acc s₃=>wpAny (model X.prog X.w) X.A (newFunctionEnv scope X.env.globals (lL X.env.cells scope.names []) [] X.env.qual none .none (some X.env)) (fun cenv s₄ =>
      codeAny (model X.prog X.w) X.A (.compStart (.ListComp elt [⟨tg,iter,ifs,0⟩] scope pos) 0 (.ref it) acc { cenv with scope:=relabel scope X.env }) (RR acc cenv.locals) s₄) E s₃) E s:=by
  have hf:∀y∈scope.names,y.2=.free->∃c,X.env.cells.lookup y.1=some c:=fun y hy e=>I.ok.has y.1 (hfree y hy e)
  have ag:∀x c,(lL X.env.cells scope.names []).lookup x=some c->X.env.cells.lookup x=some c:=nc scope.names [] hf fun x c e=>by simp at e
  have hlt:∀b∈fp,b<s.heap.objs.size:=fun b hb=>by
    obtain⟨o,e,_⟩:=T.obj _ _ st b hb
    exact Gq e
  refine Je (wpAny_newFunctionEnv hcell (by intro y hy;simp at hy) (fun h₁ hns₁ hsb₁=>?_) hkind)
  dsimp only at hns₁ hsb₁ ⊢
  generalize hH2:s.heap.push { cls:=.type "list",dict:=none,data:=.seq ([]:List Value).toArray }=G2 at hns₁ hsb₁ ⊢
  have hC:G2.objs.size=s.heap.objs.size+1:=by rw [<-hH2,GU]
  have hDC:s.heap.objs.size≠G2.objs.size:=by rw [hC];exact Gw (G8 _)
  have hCle:s.heap.objs.size<=G2.objs.size:=by rw [hC];exact Hh _
  have below:∀b,b<s.heap.objs.size->b≠G2.objs.size/\b≠s.heap.objs.size:=fun b hb=>⟨by rw [hC];exact Gw (Hb hb),Gw hb⟩
  have old:∀b o,s.heap.get? b=some o->h₁.get? b=some o:=fun b o e=>hsb₁.extBut b o (below b (Gq e)).1 (Gs _ (hH2 ▸ Gs _ e))
  have hacc:h₁.get? s.heap.objs.size=some { cls:=.type "list",data:=.seq ([]:List Value).toArray }:=hsb₁.extBut _ _ hDC (Gs _ (hH2 ▸ Gx _ rfl))
  have nD:H s.heap.objs.size=none:=I.aZ.fresh (Gi _)
  have nC:H G2.objs.size=none:=I.aZ.fresh hCle
  obtain⟨W,⟨m0,w0⟩,turn⟩:=h s.heap.objs.size nD
  generalize hXb:iN X scope G2.objs.size (ts++fr) fp s H=Xb
  have Ib:∀tk,Inv Xb [] (oO ts.length js Gd) (upd H s.heap.objs.size (.lst [])) { s with heap:=h₁,toks:=tk }:=by
    intro tk
    subst hXb
    refine⟨DP I hkind hcell hf hCle hfp hlt,rfl,I.bare,Un.laid old (Gi _) nD,⟨_,hns₁,fun i x v e1 e2 e3=>?_⟩,fun x c e=>?_,?_,fun x c e=>?_,fun p hp=>absurd (show p∈([]:List (Addr×Obj)) from hp) (by simp),I.aZ.laid old (Gi _) ⟨by show 0<=sizeLine;decide,[],_,.nil,hacc⟩,?_⟩
    . have hi:ts.length<=i:=by
        refine Nat.le_of_not_lt fun hi=>?_
        unfold oO at e2
        rw [Hf (by simpa using hi),List.getElem?_replicate] at e2
        split at e2 <;> cases e2
      have e1':fr[i-ts.length]?=some x:=by
        have e1'':(ts++fr)[i]?=some x:=e1
        rw [HR hi] at e1''
        exact e1''
      unfold oO at e2
      rw [HR (by simpa using hi),Ip,GI] at e2
      cases ej:js[i-ts.length]? with
      | none=>rw [ej] at e2;cases e2
      | some j =>
        rw [ej] at e2
        have e2':Gd.getD j none=some v:=by simpa using e2
        obtain⟨q1,q2,q3⟩:=hfr.get e1' ej
        have e2'':Gd[j]?=some (some v):=by
          rw [Iu] at e2'
          cases ez:Gd[j]? with
          | none=>rw [ez] at e2';cases e2'
          | some z=>rw [ez] at e2';rw [show z=some v from e2']
        obtain⟨m,hn,hl⟩:=I.loc
        obtain⟨u,r,l⟩:=hl j x v q1 e2'' (by
          rcases q2 with q2 | q2
          . exact .inr (.inl q2)
          . exact .inr (.inr q2))
        refine⟨u,r,.inr ⟨ng q3,?_⟩⟩
        rcases l with ⟨l,_⟩ | ⟨_,c,lc,lv⟩
        . rcases q2 with q2 | q2 <;> (rw [l] at q2;cases q2)
        . obtain⟨c',hc'⟩:=rG (cells:=X.env.cells) scope.names [] (.inl (PySem.mem_of_lookup q3))
          have:=ag x c' hc'
          rw [lc] at this
          cases this
          obtain⟨o,ho,hd⟩:=lv
          exact⟨c,hc',o,old _ _ ho,hd⟩
    . obtain⟨v,o,ho,hd⟩:=I.cell x c (ag x c e)
      exact⟨v,o,old _ _ ho,hd⟩
    . show upd H s.heap.objs.size (.lst []) G2.objs.size=none
      rw [ai hDC.symm];exact nC
    . obtain⟨v,o,ho,hd⟩:=I.cell x c (ag x c e)
      rw [ai (Gw (Gq ho))]
      exact I.iq x c (ag x c e)
    . show (oO ts.length js Gd).length=(ts++fr).length
      unfold oO
      rw [Gr,Ip,Gg,Gr,hfr.len]
  have fpB:∀{H':Hp},(∀b∈fp,H' b=none)->∀b∈fp,ke Xb [] H' b:=fun {H'} hn b hb=>by
    subst hXb
    obtain⟨h1,h2,h3,h4,h5,h6⟩:=hfp b hb
    refine⟨hn b hb,(below b (hlt b hb)).1,fun z=>?_,.inl hb,fun x c e=>h5 x c (ag x c e),fun p hp=>absurd (show p∈([]:List (Addr×Obj)) from hp) (by simp)⟩
    rcases Gu.mp (I.p9 b z) with z | z
    . exact h2 z
    . exact h3 z
  have fin:∀{Ge : St} {H':Hp} {s':Shared},Inv Xb [] Ge H' s'->Q (.ref s.heap.objs.size) H'->RR (.ref s.heap.objs.size) G2.objs.size (.ok .next) s':=fun {Ge H' s'} Jb q=>by
    subst hXb
    obtain⟨m,hn,_⟩:=Jb.loc
    refine hRR _ _ H' s' m (I.Er (ch:=fp) Jb.os Jb.base Jb.aZ Jb.bare fun b hb=>?_) hn Jb.free hCle q
    obtain⟨h1,h2,h3,h4,h5,h6⟩:=hfp b hb
    exact⟨h4,h2,h5,h6⟩
  have loop:∀tk,codeAny (model X.prog X.w) X.A (.compLoop (.ListComp elt [⟨tg,iter,ifs,0⟩] scope pos) 0 (.ref it) (.ref s.heap.objs.size) (compEnvC scope (lL X.env.cells scope.names []) G2.objs.size X.env))
        (RR (.ref s.heap.objs.size) G2.objs.size) { s with heap:=h₁,toks:=tk }:=by
    intro tk
    refine mV (fun n s'=>∃i ys Ge H',Inv Xb [] Ge H' s'/\tn i s'.heap/\(∀b∈fp,H' b=none)/\W i n ys Ge H') ?_ m0 ⟨0,[],_,_,Ib tk,T.keep _ _ _ st fun b hb o e=>old b o e,fun b hb=>?_,w0⟩
    . rintro n s3 ⟨i,ys,Ge,H3,I3,st3,fr3,w3⟩
      have htg':=htg G2.objs.size fp s H
      have hct':=hct G2.objs.size fp s H
      have hte':=hte G2.objs.size fp s H
      rw [hXb] at htg' hct' hte'
      have eP:Xb.prog=X.prog:=by subst hXb;rfl
      have ew:Xb.w=X.w:=by subst hXb;rfl
      have eK:Xb.K=X.K:=by subst hXb;rfl
      have eA:Xb.A=X.A:=by subst hXb;rfl
      have ec:Xb.calm=true:=by subst hXb;exact hc
      have ee:Xb.env=compEnvC scope (lL X.env.cells scope.names []) G2.objs.size X.env:=by subst hXb;rfl
      have ex:Xb.xe=fun _ _=>False:=by subst hXb;rfl
      rw [<-eP,<-ew,<-eA,<-ee]
      obtain⟨ha,hl,turn'⟩:=turn i n ys Ge H3 w3
      rcases turn' with ⟨stop,q⟩ | ⟨go,N,hN,step⟩
      . have hd:=T.done Xb eP ew eK ec i [] s3 Ge H3 (fun _ _=>False) I3 (fpB fr3) st3 stop
        rw [<-eP,<-ew] at hd
        refine Ja hd (fun r s4 hr4=>?_) fun _ _ z=>z
        obtain⟨hr,I4⟩:=hr4
        subst hr
        exact fin I4 q
      . have hd:=T.item Xb eP ew eK ec i [] s3 Ge H3 (fun _ _=>False) I3 (fpB fr3) st3 go
        rw [<-eP,<-ew] at hd
        refine Ja hd (fun r s4 hr4=>?_) fun _ _ z=>z
        obtain⟨u,hr,h4⟩:=hr4
        subst hr
        refine Ja h4 (fun _ s5 ⟨x,H5,I5,r5,y5,st5,fr5⟩=>?_) fun _ _ z=>z
        have I5':=I5.pinned (fpB fr5) (T.obj _ _ st5)
        have keepT:∀{σ7:St} {H7:Hp} {s7:Shared},Inv Xb ([]++m3 fp s5.heap) σ7 H7 s7->tn (i+1) s7.heap/\∀b∈fp,H7 b=none:=fun {σ7 H7 s7} I7=>by
          refine⟨T.keep _ _ _ st5 fun b hb o e=>(I7.pin (b,o) (G0 _ (G0 _ (jM hb e)))).1,fun b hb=>?_⟩
          obtain⟨o,e,d⟩:=T.obj _ _ st5 b hb
          exact (I7.pin (b,o) (G0 _ (G0 _ (jM hb e)))).2.1
        refine Ja (htg' _ s5 Ge H5 x u _ I5' r5 (step x H5 y5)) (fun _ s6 ⟨τ6,H6,I6,q6⟩=>?_) (fun _ _ z=>by rw [ex] at z;exact z)
        refine Ja (hct' _ s6 τ6 H6 _ I6 q6) (fun ok s7 ⟨H7,I7,q7⟩=>?_) (fun _ _ z=>by rw [ex] at z;exact z)
        cases ok with
        | false =>
          have q7':N ys τ6 H7:=by rw [if_neg (by simp)] at q7;exact q7
          rw [if_neg (by simp)]
          obtain⟨m',hm,w7⟩:=hN _ _ _ q7'
          exact⟨m',hm,i+1,ys,τ6,H7,I7.kf,(keepT I7).1,(keepT I7).2,w7⟩
        | true =>
          rw [if_pos rfl] at q7 ⊢
          refine Ja (hte' _ s7 τ6 H7 _ I7 q7) (fun v s8 ⟨y,H8,I8,r8,ha8,n8⟩=>?_) (fun _ _ z=>by rw [ex] at z;exact z)
          refine Ja (cR (X:=Xb) _ s8 τ6 H8 (.ref s.heap.objs.size) [y] (.ref s.heap.objs.size) [v] (fun _ H9=>H9=upd H8 s.heap.objs.size (.lst (ys++[y]))) I8 rfl (.cons r8 .nil) ⟨_,ys,y,rfl,rfl,ha8,hl,rfl⟩) (fun _ s9 ⟨_,H9,I9,_,e9⟩=>?_) (fun _ _ z=>by rw [ex] at z;exact z)
          subst e9
          obtain⟨m',hm,w8⟩:=hN _ _ _ n8
          exact⟨m',hm,i+1,_,τ6,_,I9.kf,(keepT I9).1,(keepT I9).2,w8⟩
    . rw [ai (Gw (hlt b hb))]
      exact (hfp b hb).1
  exact codeAny_compStart_list (loop _) (T.self _ 0 _ _ _ (T.keep _ _ _ st fun b hb o e=>old b o e) (loop _))
theorem Inv.zo {pins:List (Addr×Obj)}{Gd : St}{H H':Hp}{s s':Shared}{C:Addr}{h':Heap}(I:Inv X pins Gd H s){σ':St}(I':Inv X pins σ' H' s')(hC:H' C=none)(hle:s.heap.objs.size<=C)(hsb:GX C s'.heap h') :
  Inv X pins σ' H' { s' with heap:=h' }:=by
 obtain⟨h1,h2,h3,h4,h5,h6⟩:=I.rA (H':=H') hle hC
 exact I'.turned (t':=s'.toks) (fun b o hb e=>hsb.extBut b o hb e) hC h2 h4 h5 h6
theorem fR {tg elt iter:Expr}{ifs:List Expr}{scope:Scope}{wi:TI}{g:TG}{ct:TT}{te:TE}(ts fr:List Str)(js:List Nat)
  (hc:X.calm=true) (hi:PI X tg iter wi) (hkind:scope.kind=.function) (hcell:∀y∈scope.names,y.2≠.cell) (hnames:∀y∈scope.names,y.2=.local->scope.names.lookup y.1=some .local)
  (hfree0:∀y∈scope.names,y.2=.free->y.1∈fr) (hfr:iZ X scope fr js)
  (htg:∀C fp s₁ H₁,PG (iN X scope C (ts++fr) fp s₁ H₁) tg g) (hct:∀C fp s₁ H₁,zm (iN X scope C (ts++fr) fp s₁ H₁) ifs ct) (hte:∀C fp s₁ H₁,PE (iN X scope C (ts++fr) fp s₁ H₁) elt te)
  (hs:∀x,foldedSetIterable iter X.env x=pure x:=by intro _;rfl):PE X (.ListComp elt [⟨tg,iter,ifs,0⟩] scope pos) (EZ ts.length js wi g ct te):=by
 have hfree:∀y∈scope.names,y.2=.free->X.env.kindOf y.1=some .cell\/X.env.kindOf y.1=some .free:=fun y hy e=>hfr.mem (hfree0 y hy e)
 intro pins s Gd H Q I h
 rw [eval_ListComp]
 refine JG (use:=none) rfl hs (qp fun y hy e=>I.ok.has y.1 (hfree y hy e)) hkind hnames (bo (hi pins s Gd H _ I h) fun xv s1 h1=>bo h1 fun itv s2 h2=>?_)
 obtain⟨it,fp,tn,J,H2,e,I2,T,st2,f2,hW⟩:=h2
 subst e
 refine w5 (RR:=fun acc C=>compPost (model X.prog X.w) X.A X.xe none (EP X pins Gd Q) acc C) hc hkind hcell hfree hfr htg hct hte I2 T st2 f2 hW ?_
 intro acc C H' s' m I' hn hC hle q
 exact⟨m,hn,fun h' hsb=>⟨.ref acc,H',I2.zo I' hC hle hsb,rfl,q⟩⟩
theorem md {tg elt iter:Expr}{ifs:List Expr}{scope:Scope}{wi:TI}{g:TG}{ct:TT}{te:TE}{i:Nat}{y:Str}{py spos:Pos}(ts fr:List Str)(js:List Nat)
  (hsw:swapsWith (.ListComp elt [⟨tg,iter,ifs,0⟩] scope pos) (some (.Name y py)) spos.line X.env=pure true) (hN:X.N.Nodup) (hi0:X.N[i]?=some y) (hx:X.env.scope.names.lookup y=some .local)
  (hc:X.calm=true) (hi:PI X tg iter wi) (hkind:scope.kind=.function) (hcell:∀y∈scope.names,y.2≠.cell) (hnames:∀y∈scope.names,y.2=.local->scope.names.lookup y.1=some .local)
  (hfree0:∀y∈scope.names,y.2=.free->y.1∈fr) (hfr:iZ X scope fr js)
  (htg:∀C fp s₁ H₁,PG (iN X scope C (ts++fr) fp s₁ H₁) tg g) (hct:∀C fp s₁ H₁,zm (iN X scope C (ts++fr) fp s₁ H₁) ifs ct) (hte:∀C fp s₁ H₁,PE (iN X scope C (ts++fr) fp s₁ H₁) elt te)
  (hs:∀x,foldedSetIterable iter X.env x=pure x:=by intro _;rfl):PS X (.Assign [.Name y py] (.ListComp elt [⟨tg,iter,ifs,0⟩] scope pos) spos) (Av (EZ ts.length js wi g ct te) (um i)):=by
 have hfree:∀y∈scope.names,y.2=.free->X.env.kindOf y.1=some .cell\/X.env.kindOf y.1=some .free:=fun y hy e=>hfr.mem (hfree0 y hy e)
 intro pins s Gd H D I h
 rw [exec_Assign_Name_used _ _ _ _ hsw]
 refine IZ (Jp (IZ ?_))
 show wpAny _ X.A (do let _ <-comprehension (.ListComp elt [⟨tg,iter,ifs,0⟩] scope pos) scope X.env _ (newList []) false (eval iter X.env) (some (assign (.Name y py) X.env))) _ _ s
 refine IZ (Ja (JG (use:=some (assign (.Name y py) X.env)) (Q:=fun _ s'=>SP X pins D .next s') rfl hs (qp fun y hy e=>I.ok.has y.1 (hfree y hy e)) hkind hnames
  (bo (hi pins s Gd H _ I h) fun xv s1 h1=>bo h1 fun itv s2 h2=>?_)) (fun _ s' hq=>I0 (I0 hq)) fun _ _ e=>e)
 obtain⟨it,fp,tn,J,H2,e,I2,T,st2,f2,hW⟩:=h2
 subst e
 refine w5 (Q:=fun v H'=>D.nx (Gd.set i (some v)) H') (RR:=fun acc C=>compPost (model X.prog X.w) X.A X.xe (some (assign (.Name y py) X.env)) (fun _ s'=>SP X pins D .next s') acc C) hc hkind hcell hfree hfr htg hct hte I2 T st2 f2 hW ?_
 intro acc C H' s' m I' hn hC hle q
 show wpAny _ X.A (assign (.Name y py) X.env (.ref acc)) _ _ _
 refine wpAny_assign_Name (sO I' hN hi0 (.inl hx) (v:=.ref acc) rfl (fun s'' I'' hch=>?_) (.inr hx))
 obtain⟨h1,h2,h3,h4,h5,h6⟩:=I2.rA (H':=H') hle hC
 obtain⟨a,hsb,ha⟩:=hch
 refine⟨m,hn.sameBut hsb ?_,fun h' hsb'=>⟨_,H',I2.zo I'' hC hle hsb',q⟩⟩
 rcases ha with ha | ha
 ·rw [ha];exact h2
 ·exact fun z=>h5 y a ha z.symm
end
theorem w6 {K:Gh}{a acc:Addr}{xs:List V}{n:Nat}{js:List Nat}{g:TG}{ct:TT}{te:TE}{Gd : St}{H1:Hp}{Q:VK}(Pv:Nat->List V->St->Hp->Prop)(h0:Pv 0 [] (oO n js Gd) (upd H1 acc (.lst [])))
  (hl:∀i ys Ge H,i<=xs.length->Pv i ys Ge H->aY K H a xs/\H acc=some (.lst ys)/\ys.length<sizeLine)
  (hs:∀i x ys Ge H,xs[i]?=some x->Pv i ys Ge H->g x Ge H fun τ1 H4=>ct τ1 H4 fun b H5=>if b=true then te τ1 H5 fun y H6=>H6 acc=some (.lst ys)/\Pv (i+1) (ys++[y]) τ1 (upd H6 acc (.lst (ys++[y]))) else Pv (i+1) ys τ1 H5)
  (hd:∀ys Ge H,Pv xs.length ys Ge H->Q (.ref acc) H) :
  wZ (Dw K a) n js g ct te acc Gd H1 Q:=by
 refine⟨fun i m ys Ge H=>m=xs.length-i/\i<=xs.length/\Pv i ys Ge H,⟨xs.length,by simp,GK _,h0⟩,?_⟩
 rintro i m ys Ge H ⟨rfl,hi,p⟩
 obtain⟨q,q2,q3⟩:=hl i ys Ge H hi p
 refine⟨q2,q3,?_⟩
 by_cases hlt:i<xs.length
 ·refine .inr ⟨⟨xs,xs[i],q,by simp [hlt]⟩,Pv (i+1),fun ys' τ' H' p'=>⟨xs.length-(i+1),by omega,rfl,hlt,p'⟩,fun x H' y=>?_⟩
  obtain⟨e,y⟩:=y
  subst e
  exact hs i x ys Ge _ (y xs q) p
 ·have e:i=xs.length:=by omega
  subst e
  exact .inl ⟨⟨xs,q,Gi _⟩,hd ys Ge H p⟩
theorem nh {K:Gh}{a acc:Addr}{xs:List V}{n:Nat}{js:List Nat}{g:TG}{ct:TT}{te:TE}{Gd : St}{H1:Hp}{Q:VK}(Pv:Nat->List V->St->Hp->Prop)(h0:Pv 0 [] (oO n js Gd) (upd H1 acc (.lst [])))
  (hl:∀i ys Ge H,i<=xs.length->Pv i ys Ge H->ay K H a xs/\H acc=some (.lst ys)/\ys.length<sizeLine)
  (hs:∀i x ys Ge H,xs[i]?=some x->Pv i ys Ge H->g x Ge H fun τ1 H4=>ct τ1 H4 fun b H5=>if b=true then te τ1 H5 fun y H6=>H6 acc=some (.lst ys)/\Pv (i+1) (ys++[y]) τ1 (upd H6 acc (.lst (ys++[y]))) else Pv (i+1) ys τ1 H5)
  (hd:∀ys Ge H,Pv xs.length ys Ge H->Q (.ref acc) H) :
  wZ (wL K a) n js g ct te acc Gd H1 Q:=by
 refine⟨fun i m ys Ge H=>m=xs.length-i/\i<=xs.length/\Pv i ys Ge H,⟨xs.length,by simp,GK _,h0⟩,?_⟩
 rintro i m ys Ge H ⟨rfl,hi,p⟩
 obtain⟨q,q2,q3⟩:=hl i ys Ge H hi p
 refine⟨q2,q3,?_⟩
 by_cases hlt:i<xs.length
 ·refine .inr ⟨⟨xs,xs[i],q,by simp [hlt]⟩,Pv (i+1),fun ys' τ' H' p'=>⟨xs.length-(i+1),by omega,rfl,hlt,p'⟩,fun x H' y=>?_⟩
  obtain⟨e,y⟩:=y
  subst e
  exact hs i x ys Ge _ (y xs q) p
 ·have e:i=xs.length:=by omega
  subst e
  exact .inl ⟨⟨xs,q,Gi _⟩,hd ys Ge H p⟩
theorem me {lo:Int}{k:Nat}{acc:Addr}{n:Nat}{js:List Nat}{g:TG}{ct:TT}{te:TE}{Gd : St}{H1:Hp}{Q:VK}(Pv:Nat->List V->St->Hp->Prop)(h0:Pv 0 [] (oO n js Gd) (upd H1 acc (.lst [])))
  (hl:∀i ys Ge H,i<=k->Pv i ys Ge H->H acc=some (.lst ys)/\ys.length<sizeLine)
  (hs:∀i ys Ge H,i<k->Pv i ys Ge H->g (.int (lo+i)) Ge H fun τ1 H4=>ct τ1 H4 fun b H5=>if b=true then te τ1 H5 fun y H6=>H6 acc=some (.lst ys)/\Pv (i+1) (ys++[y]) τ1 (upd H6 acc (.lst (ys++[y]))) else Pv (i+1) ys τ1 H5)
  (hd:∀ys Ge H,Pv k ys Ge H->Q (.ref acc) H) :
  wZ (uH lo k) n js g ct te acc Gd H1 Q:=by
 refine⟨fun i m ys Ge H=>m=k-i/\i<=k/\Pv i ys Ge H,⟨k,by simp,GK _,h0⟩,?_⟩
 rintro i m ys Ge H ⟨rfl,hi,p⟩
 obtain⟨q2,q3⟩:=hl i ys Ge H hi p
 refine⟨q2,q3,?_⟩
 by_cases hlt:i<k
 ·refine .inr ⟨hlt,Pv (i+1),fun ys' τ' H' p'=>⟨k-(i+1),by omega,rfl,hlt,p'⟩,fun x H' y=>?_⟩
  obtain⟨e,y⟩:=y
  subst e y
  exact hs i ys Ge _ hlt p
 ·have e:i=k:=by omega
  subst e
  exact .inl ⟨Gi _,hd ys Ge H p⟩
section
variable {X:Cx}
end
def FF (t:TS):TS:=fun D Gd H=>∃M:St->Hp->Prop,t { D with nx:=M } Gd H/\∀σ' H',M σ' H'->D.nx σ' H'
theorem cG {X:Cx}{st:Stmt}{t:TS}(h:PS X st t):PS X st (FF t):=by
 intro pins s Gd H D I q
 obtain⟨M,q,hM⟩:=q
 refine bo (h pins s Gd H _ I q) fun f s' hs=>?_
 cases f with
 | next =>
  obtain⟨σ',H',I',m⟩:=hs
  exact⟨σ',H',I',hM _ _ m⟩
 | brk=>exact hs
 | cont=>exact hs
 | ret u=>exact hs
theorem il {m:Int}(h0:0<m)(h1:m<1073741824):m.natAbs.log2<9000:=by
 have h:m.natAbs.log2<30:=(Nat.log2_lt (by omega)).mpr (by omega)
 omega
theorem w9 {X:Cx}{K:Gh}{es:List Expr}{k:Nat}{t:sP}{n:Nat}{pos:Pos}(hK:X.K=K)(h:PG X (.Tuple es k pos) (Au X.K n t)):PG X (.Tuple es k pos) (Au K n t):=by
 subst hK
 exact h
mutual
inductive aX (H:Hp):V->PyData->Prop
 | bL:aX H .bL .none
 | bl (b:Bool):aX H (.bl b) (.bool b)
 | int (i:Int):aX H (.int i) (.int i)
 | str (x:Str):aX H (.str x) (.str x)
 | lst {p:Addr} {xs:List V} {ds:List PyData}:H p=some (.lst xs)->br H xs ds->aX H (.ref p) (.list ds)
 | tup {p:Addr} {xs:List V} {ds:List PyData}:H p=some (.tup xs)->br H xs ds->aX H (.ref p) (.tuple ds)
inductive br (H:Hp):List V->List PyData->Prop
 | nil:br H [] []
 | cons {x:V} {xs:List V} {d:PyData} {ds:List PyData}:aX H x d->br H xs ds->br H (x::xs) (d::ds)
end
section
variable {P:Program}{w:World}{H:Hp}{h:Heap}
mutual
theorem aX.reads (ok:eG P w H h):∀{x:V} {d:PyData} {v:Value},aX H x d->RelV x v->∃as,Reads h v d as
 | _,_,v,.bL,r=>by
  cases (show v=Value.none from r)
  exact⟨_,.none⟩
 | _,_,v,.bl b,r=>by
  cases (show v=Value.bool b from r)
  exact⟨_,.bool b⟩
 | _,_,v,.int i,r=>by
  obtain⟨t,e⟩:=(show ∃t,v=Value.int i t from r)
  cases e
  exact⟨_,.int i t⟩
 | _,_,v,.str x,r=>by
  obtain⟨t,e⟩:=(show ∃t,v=Value.str x t from r)
  cases e
  exact⟨_,.str x t⟩
 | _,_,v,.lst (p:=p) (xs:=xs) e ds,r=>by
  cases (show v=Value.ref p from r)
  obtain⟨_,its,n,rv,h1⟩:=(show cA P w H h p (.lst xs) from ok p _ e)
  obtain⟨as,ra⟩:=br.reads ok ds rv
  exact⟨_,.list (vs:=its.toArray) h1 rfl rfl (by simpa using ra)⟩
 | _,_,v,.tup (p:=p) (xs:=xs) e ds,r=>by
  cases (show v=Value.ref p from r)
  obtain⟨_,its,rv,o,h1,h2,n,h3⟩:=(show cA P w H h p (.tup xs) from ok p _ e)
  obtain⟨as,ra⟩:=br.reads ok ds rv
  exact⟨_,.tuple (vs:=its.toArray) h1 h2 h3.1 (by simpa using ra)⟩
theorem br.reads (ok:eG P w H h):∀{xs:List V} {ds:List PyData} {vs:List Value},br H xs ds->Vals xs vs->∃as,ReadsAll h vs ds as
 | _,_,_,.nil,.nil=>⟨_,.nil⟩
 | _,_,_,.cons r rs,.cons q qs=>by
  obtain⟨as,ra⟩:=aX.reads ok r q
  obtain⟨bs,rb⟩:=br.reads ok rs qs
  exact⟨_,.cons ra rb⟩
end
end
section
variable {X:Cx}
def DR (neg:Bool):R2:=fun x y H Q=>∃dx dy,aX H x dx/\aX H y dy/\dx.canLay0=true/\dy.canLay0=true/\min dx.depth dy.depth<=60/\Q (.bl (if neg then !PyData.eqv dx dy else PyData.eqv dx dy)) H
theorem zp (hu:X.A.units+64<cLine):fq X (compareOp .Eq) (DR false):=by
 intro pins s Gd H x y v u Q I rx ry h
 obtain⟨dx,dy,r1,r2,c1,c2,hd,q⟩:=h
 obtain⟨as,ra⟩:=r1.reads I.aZ rx
 obtain⟨bs,rb⟩:=r2.reads I.aZ ry
 exact PySem.SeqAt.compareEq_reads ra rb c1 c2 (by omega) ⟨.bl _,H,I,rfl,q⟩
theorem qr (hu:X.A.units+64<cLine):fq X (compareOp .NotEq) (DR true):=by
 intro pins s Gd H x y v u Q I rx ry h
 obtain⟨dx,dy,r1,r2,c1,c2,hd,q⟩:=h
 obtain⟨as,ra⟩:=r1.reads I.aZ rx
 obtain⟨bs,rb⟩:=r2.reads I.aZ ry
 exact PySem.SeqAt.neOverData X.prog X.w X.A X.xe s v u dx dy as bs _ ra rb c1 c2 (by omega) ⟨.bl _,H,I,rfl,q⟩
end
def one (c:Nat):Str:=⟨#[c]⟩
theorem uR (rest:List Str):∀a:Array Nat,(rest.foldl (fun acc p=>acc++Str.empty.cps++p.cps) a).toList=a.toList++rest.flatMap (·.cps.toList):=by
 induction rest with
 | nil=>intro a;simp
 | cons x r ih =>
  intro a
  rw [HI,ih]
  have e:Str.empty.cps = #[]:=rfl
  simp [e]
theorem join_ones (cs:List Nat):(Txt.join Str.empty (cs.map one)).cps.toList=cs:=by
 cases cs with
 | nil=>rfl
 | cons c r =>
  show (List.foldl (fun acc p=>acc++Str.empty.cps++p.cps) (#[c]:Array Nat) (r.map one)).toList=c::r
  rw [uR]
  simp only [List.flatMap_map,one]
  simp
theorem AN:Str.ofString "" = Str.empty:=by decide +kernel
theorem x8 {ys:List Str}:∀{us:List Value},Vals (ys.map V.str) us->StrsAre us ys:=by
 induction ys with
 | nil=>intro us r;cases r;exact .nil
 | cons y ys ih =>
  intro us r
  cases r with
  | cons h t =>
   obtain⟨k,e⟩:=h
   subst e
   exact .cons y k (ih t)
section
variable {X:Cx}
def rJoin (K:Gh):V->List V->Hp->VK->Prop:=fun x vs H Q=>∃(z:Str) (p:Addr) (ys:List Str),x=.str z/\vs=[.ref p]/\aY K H p (ys.map V.str)/\(ys.map (·.length)).sum+ys.length*z.length<=16777216/\Q (.str (Txt.join z ys)) H
theorem xa:DI X "str.join" (rJoin X.K):=by
 intro pins s Gd H x vs v us Q I rx rv h
 obtain⟨z,p,ys,rfl,rfl,hS,hz,q⟩:=h
 obtain⟨t,e⟩:=(show ∃t,v=Value.str z t from rx)
 subst e
 obtain⟨u,rfl,ru⟩:=vals1 rv
 cases (show u=Value.ref p from ru)
 obtain⟨its,rv',pl,_⟩:=I.list hS
 exact join_list pl.isList (by simpa using x8 rv') hz fun t' k=>⟨.str _,H,I.tok k,⟨_,rfl⟩,q⟩
end
inductive cH where
 | put (x:Str) (n:Int)
 | copy (x y:Str)
 | add (x:Str) (n:Int)
 | read (x:Str)
 | tell (x:Str)
inductive End where
 | stop
 | go (p:Nat)
 | cE (less:Bool) (x:Str) (n:Int) (p q:Nat)
abbrev Piece:=List cH×End
def wT (b:Bool):Str:=if b=true then "less" else "is"
def dI:cH->PyData
 | .put x n=>.tuple [.str "put",.str x,.int n]
 | .copy x y=>.tuple [.str "copy",.str x,.str y]
 | .add x n=>.tuple [.str "add",.str x,.int n]
 | .read x=>.tuple [.str "read",.str x]
 | .tell x=>.tuple [.str "tell",.str x]
def ni:End->PyData
 | .stop=>.tuple [.str "stop"]
 | .go p=>.tuple [.str "go",.int p]
 | .cE b x n p q=>.tuple [.str (wT b),.str x,.int n,.int p,.int q]
def df (p:Piece):PyData:=.tuple [.tuple (p.1.map dI),ni p.2]
def cN (ps:List Piece):PyData:=.tuple (ps.map df)
structure fZ (x:Str):Prop where
 lo:1<=x.length
 hi:x.length<=8
 az:∀c∈x.cps.toList,97<=c/\c<=122
def mf (n:Int):Prop:=-(10 ^ 40)<n/\n<10 ^ 40
def eW (xs:List Str):cH->Prop
 | .put x n=>x∈xs/\mf n
 | .copy x y=>x∈xs/\y∈xs
 | .add x n=>x∈xs/\mf n
 | .read x=>x∈xs
 | .tell x=>x∈xs
def iO (xs:List Str)(count:Nat):End->Prop
 | .stop=>True
 | .go p=>p<count
 | .cE _ x n p q=>x∈xs/\mf n/\p<count/\q<count
structure cL (xs:List Str) (most:Nat) (ps:List Piece):Prop where
 iP:∀p∈ps,p.1.length<=most/\∀d∈p.1,eW xs d
 ends:∀p∈ps,iO xs ps.length p.2
mutual
def cC:PyData->Bool
 | .list _=>false
 | .tuple xs=>cJ xs
 | _=>true
def cJ:List PyData->Bool
 | []=>true
 | x::xs=>cC x&&cJ xs
end
mutual
theorem aX.bp {H H':Hp}(k:∀p xs,H p=some (.tup xs)->H' p=some (.tup xs)):∀{x:V} {d:PyData},aX H x d->cC d=true->aX H' x d
 | _,_,.bL,_=>.bL
 | _,_,.bl b,_=>.bl b
 | _,_,.int i,_=>.int i
 | _,_,.str x,_=>.str x
 | _,_,.lst _ _,h=>nomatch h
 | _,_,.tup e ds,h=>.tup (k _ _ e) (br.bp k ds h)
theorem br.bp {H H':Hp}(k:∀p xs,H p=some (.tup xs)->H' p=some (.tup xs)):∀{xs:List V} {ds:List PyData},br H xs ds->cJ ds=true->br H' xs ds
 | _,_,.nil,_=>.nil
 | _,_,.cons r rs,h=>by
  simp only [cJ,G5] at h
  exact .cons (aX.bp k r h.1) (br.bp k rs h.2)
end
theorem aX.fix {b:Addr}{H H':Hp}{x:V}{d:PyData}(r:aX H x d)(hb:cQ H b)(f:Fix b H H')(n:cC d=true):aX H' x d :=
 r.bp (fun p xs e=>f p _ e (hb.lK e)) n
theorem aX.same {H H':Hp}{x:V}{d:PyData}(r:aX H x d)(f:ar H H')(n:cC d=true):aX H' x d :=
 r.bp (fun p xs e=>f p _ e) n
theorem br.fix {b:Addr}{H H':Hp}{xs:List V}{ds:List PyData}(r:br H xs ds)(hb:cQ H b)(f:Fix b H H')(n:cJ ds=true):br H' xs ds :=
 r.bp (fun p xs e=>f p _ e (hb.lK e)) n
theorem br.same {H H':Hp}{xs:List V}{ds:List PyData}(r:br H xs ds)(f:ar H H')(n:cJ ds=true):br H' xs ds :=
 r.bp (fun p xs e=>f p _ e) n
theorem br.put {H:Hp}{xs ys:List V}{ds:List PyData}{l:Addr}{o:HO}(r:br H xs ds)(hl:H l=some (.lst ys))(n:cJ ds=true):br (upd H l o) xs ds :=
 r.bp (fun p zs e=>by rw [ai (bB e hl (by intro z;cases z))];exact e) n
theorem br.app {H:Hp}{x:V}{d:PyData}:∀{xs:List V} {ds:List PyData},br H xs ds->aX H x d->br H (xs++[x]) (ds++[d])
 | _,_,.nil,q=>.cons q .nil
 | _,_,.cons r rs,q=>.cons r (br.app rs q)
theorem br.len {H:Hp}:∀{xs:List V} {ds:List PyData},br H xs ds->xs.length=ds.length
 | _,_,.nil=>rfl
 | _,_,.cons _ rs=>by simp [br.len rs]
theorem oP (d:cH):cC (dI d)=true:=by cases d <;> rfl
theorem mh (e:End):cC (ni e)=true:=by cases e <;> rfl
theorem cw:∀ds:List cH,cJ (ds.map dI)=true
 | []=>rfl
 | d::ds=>by show (cC (dI d)&&cJ (ds.map dI))=true;rw [oP,cw ds];rfl
theorem gJ (p:Piece):cC (df p)=true:=by
 show (cJ (p.1.map dI)&&(cC (ni p.2)&&true))=true
 rw [cw,mh];rfl
theorem bg:∀ps:List Piece,cJ (ps.map df)=true
 | []=>rfl
 | p::ps=>by show (cC (df p)&&cJ (ps.map df))=true;rw [gJ,bg ps];rfl
theorem cK (ps:List Piece):cC (cN ps)=true:=bg ps
structure gW (H:Hp) (b l:Addr) (xs:List Str):Prop where
 at_:H l=some (.lst (xs.map V.str))
 ne:l≠b
 x9:xs≠[]
 bK:xs.length<=1000
 ok:∀x∈xs,fZ x
theorem gW.fix {H H':Hp}{b l:Addr}{xs:List Str}(h:gW H b l xs)(f:Fix b H H'):gW H' b l xs:=⟨f l _ h.at_ h.ne,h.ne,h.x9,h.bK,h.ok⟩
theorem gW.pos {H:Hp}{b l:Addr}{xs:List Str}(h:gW H b l xs):0<((xs.map V.str).length:Int)/\((xs.map V.str).length:Int)<1073741824:=by
 have h1:=h.x9
 have h2:=h.bK
 have h3:0<xs.length:=by cases xs with | nil=>exact absurd rfl h1 | cons _ _=>simp
 rw [Gg]
 omega
def rJ:Sp:=fun vs H Q _=>∃(b:Addr),vs=[.ref b]/\cQ H b/\∀l xs H',gW H' b l xs->xs.length<=4->cQ H' b->Fix b H H'->Q (.ref l) H'
def ko:Sp:=fun vs H Q _=>∃(b:Addr),vs=[.ref b]/\cQ H b/\∀n H',mf n->cQ H' b->Fix b H H'->Q (.int n) H'
def uS:Sp:=fun vs H Q _=>∃(b l:Addr) (xs:List Str),vs=[.ref b,.ref l]/\cQ H b/\gW H b l xs/\∀v d H',aX H' v (dI d)->eW xs d->cQ H' b->Fix b H H'->Q v H'
def uT:Sp:=fun vs H Q _=>∃(b l:Addr) (xs:List Str) (c:Nat),vs=[.ref b,.ref l,.int c]/\cQ H b/\gW H b l xs/\0<c/\c<1073741824/\∀v e H',aX H' v (ni e)->iO xs c e->cQ H' b->Fix b H H'->Q v H'
def uU:Sp:=fun vs H Q _=>∃(b:Addr) (c m:Nat),vs=[.ref b,.int c,.int m]/\cQ H b/\0<c/\c<=1000/\m<=1000/\∀v xs ps H',aX H' v (cN ps)->ps.length=c->cL xs m ps->((∀x∈xs,fZ x)/\xs.length<=4)->cQ H' b->Fix b H H'->Q v H'
def rK:Sp:=fun vs H Q _=>∃(b:Addr) (m:Nat),vs=[.ref b,.int m]/\cQ H b/\0<m/\m<=1000/\∀(n:Nat) H',0<n->n<=max m 4->cQ H' b->Fix b H H'->Q (.int n) H'
def qt:Str := "abcdefghijklmnopqrstuvwxyz"
theorem uV:qt.cps.toList=(GN 26).map (· + 97):=by decide +kernel
theorem xb:qt.length<=sizeLine:=by decide +kernel
theorem zq {r:Int}(h0:0<=r)(h1:r<26):∃c,fw qt.cps.toList r=some c/\97<=c/\c<=122:=by
 have hl:qt.cps.toList.length=26:=by rw [uV];simp
 obtain⟨c,hc,hm⟩:=xY (xs:=qt.cps.toList) h0 (by rw [hl];exact h1)
 refine⟨c,hc,?_⟩
 rw [uV] at hm
 obtain⟨k,hk,rfl⟩:=GH.mp hm
 have:=Ho.mp hk
 omega
theorem pf {xs:List Str}{r:Int}(h0:0<=r)(h1:r<((xs.map V.str).length:Int)):∃x,fw (xs.map V.str) r=some (V.str x)/\x∈xs:=by
 obtain⟨v,hv,hm⟩:=xY h0 h1
 obtain⟨x,hx,rfl⟩:=GH.mp hm
 exact⟨x,hv,hx⟩
theorem lh {Gd : L2.St}{H:Hp}{Q:Bool->Hp->Prop}(h:Q true H):DQ Gd H Q:=h
theorem dB {i:Nat}{v:V}{Gd : L2.St}{H:Hp}{Q:L2.St->Hp->Prop}(h:Q (Gd.set i (some v)) H):um i v Gd H Q:=h
section
variable {κ : Type}[DecidableEq κ]
def cX (kvs:List (κ×V))(k:κ):Option V:=(kvs.find? fun kv=>decide (kv.1=k)).map (·.2)
def putK (kvs:List (κ×V))(k:κ)(v:V):List (κ×V) :=
 if (kvs.any fun kv=>decide (kv.1=k))=true then kvs.map (fun kv=>if kv.1=k then (kv.1,v) else kv) else kvs++[(k,v)]
theorem dD {p:κ×V}{r:List (κ×V)}{k:κ}(e:p.1=k):cX (p::r) k=some p.2:=by simp [cX,HJ,e]
theorem dE {p:κ×V}{r:List (κ×V)}{k:κ}(e:¬p.1=k):cX (p::r) k=cX r k:=by simp [cX,HJ,e]
theorem mi (k:κ):∀kvs:List (κ×V),(kvs.any fun kv=>decide (kv.1=k))=(cX kvs k).isSome
 | []=>rfl
 | p::r=>by
  rw [HU]
  by_cases e:p.1=k
  ·simp only [dD e,decide_eq_true e,Bool.true_or,Option.isSome_some]
  ·rw [dE e,decide_eq_false e,Bool.false_or];exact mi k r
theorem uW (k j:κ)(y:V):∀kvs:List (κ×V),cX (kvs.map fun kv=>if kv.1=k then (kv.1,y) else kv) j=(cX kvs j).map fun x=>if j=k then y else x
 | []=>rfl
 | p::r=>by
  have ih:=uW k j y r
  rw [GS]
  by_cases h:p.1=k
  ·rw [if_pos h]
   by_cases e:p.1=j
   ·rw [dD (p:=(p.1,y)) e,dD e,Iv,if_pos (e.symm.trans h)]
   ·rw [dE (p:=(p.1,y)) e,dE e,ih]
  ·rw [if_neg h]
   by_cases e:p.1=j
   ·rw [dD (p:=p) e,dD e,Iv,if_neg (fun z=>h (e.trans z))]
   ·rw [dE (p:=p) e,dE e,ih]
theorem tj (k j:κ)(y:V):∀kvs:List (κ×V),cX kvs k=none->cX (kvs++[(k,y)]) j=if j=k then some y else cX kvs j
 | [],_=>by
  by_cases e:k=j
  ·rw [if_pos e.symm];exact dD (p:=(k,y)) e
  ·rw [if_neg (fun z=>e z.symm)];exact dE (p:=(k,y)) e
 | p::r,hn=>by
  rw [List.cons_append]
  have hk:¬p.1=k:=fun z=>by rw [dD z] at hn;cases hn
  rw [dE hk] at hn
  have ih:=tj k j y r hn
  by_cases e:p.1=j
  ·rw [dD e,dD e,if_neg (fun z=>hk (e.trans z))]
  ·rw [dE e,dE e,ih]
theorem ph (kvs:List (κ×V))(k j:κ)(y:V):cX (putK kvs k y) j=if j=k then some y else cX kvs j:=by
 unfold putK
 by_cases a:(kvs.any fun kv=>decide (kv.1=k))=true
 ·rw [if_pos a,uW]
  rw [mi] at a
  by_cases e:j=k
  ·obtain⟨x,hx⟩:=Option.isSome_iff_exists.mp a
   rw [if_pos e,e,hx,Iv,if_pos rfl]
  ·rw [if_neg e]
   cases cX kvs j with
   | none=>rfl
   | some x=>rw [Iv,if_neg e]
 ·rw [if_neg a]
  refine tj k j y kvs ?_
  rw [mi] at a
  cases q:cX kvs k with
  | none=>rfl
  | some x=>rw [q] at a;exact (a rfl).elim
theorem dJ (kvs:List (κ×V))(k:κ)(v:V):(putK kvs k v).length<=kvs.length+1:=by
 unfold putK
 split
 ·rw [Gg];omega
 ·rw [Gr,GZ,HV];omega
theorem gB.nj {o:Option V}{u:Option Value}(r:gB o u):o.isSome=u.isSome:=by
 cases o with
 | none=>cases u with
  | none=>rfl
  | some _=>exact (show False from r).elim
 | some _=>cases u with
  | none=>exact (show False from r).elim
  | some _=>rfl
theorem gB.getD {o:Option V}{u:Option Value}{d:V}{d':Value}(r:gB o u)(rd:RelV d d'):RelV (o.getD d) (u.getD d'):=by
 cases o with
 | none=>cases u with
  | none=>exact rd
  | some _=>exact (show False from r).elim
 | some _=>cases u with
  | none=>exact (show False from r).elim
  | some _=>exact r
theorem KV.val {kvs:List (κ×V)}{vs:List (κ×Value)}(r:KV kvs vs)(k:κ):gB (cX kvs k) (valueAt vs k):=by
 unfold KV at r
 induction r with
 | nil=>exact True.intro
 | @cons p q ps qs h t ih =>
  obtain⟨h1,h2⟩:=h
  by_cases e:p.1=k
  ·have e':q.1=k:=h1.symm.trans e
   have b:valueAt (q::qs) k=some q.2:=by simp [valueAt,HJ,e']
   rw [dD e,b];exact h2
  ·have e':¬q.1=k:=fun z=>e (h1.trans z)
   have b:valueAt (q::qs) k=valueAt qs k:=by simp [valueAt,HJ,e']
   rw [dE e,b];exact ih
theorem KV.any {kvs:List (κ×V)}{vs:List (κ×Value)}(r:KV kvs vs)(k:κ):(kvs.any fun kv=>decide (kv.1=k))=vs.any fun kv=>decide (kv.1=k):=by
 unfold KV at r
 induction r with
 | nil=>rfl
 | cons h t ih=>rw [HU,HU,ih,h.1]
theorem KV.AO {kvs:List (κ×V)}{vs:List (κ×Value)}(r:KV kvs vs)(k:κ){y:V}{u:Value}(ry:RelV y u) :
  KV (kvs.map fun kv=>if kv.1=k then (kv.1,y) else kv) (vs.map fun kv=>if kv.1=k then (kv.1,u) else kv):=by
 unfold KV at r ⊢
 induction r with
 | nil=>exact .nil
 | @cons p q ps qs h t ih =>
  rw [GS,GS]
  refine .cons ?_ ih
  obtain⟨h1,h2⟩:=h
  by_cases e:p.1=k
  ·rw [if_pos e,if_pos (h1.symm.trans e)];exact⟨h1,ry⟩
  ·rw [if_neg e,if_neg (fun z=>e (h1.trans z))];exact⟨h1,h2⟩
theorem KV.put {kvs:List (κ×V)}{vs:List (κ×Value)}(r:KV kvs vs)(k:κ){y:V}{u:Value}(ry:RelV y u):KV (putK kvs k y) (stored vs k u):=by
 unfold putK stored
 rw [r.any k]
 by_cases e:(vs.any fun kv=>decide (kv.1=k))=true
 ·rw [if_pos e,if_pos e];exact r.AO k ry
 ·rw [if_neg e,if_neg e];exact Paired.snoc r ⟨rfl,ry⟩
theorem KV.keys {kvs:List (κ×V)}{vs:List (κ×Value)}(r:KV kvs vs):kvs.map (·.1)=vs.map (·.1):=by
 unfold KV at r
 induction r with
 | nil=>rfl
 | cons h t ih=>rw [GS,GS,ih,h.1]
theorem KV.length {kvs:List (κ×V)}{vs:List (κ×Value)}(r:KV kvs vs):kvs.length=vs.length:=Paired.length r
end
theorem mj {P:Program}{w:World}{k:Key}{u:Value}(r:RelV (kV k) u):(aW P w).is k u=true:=by
 cases k with
 | inl i=>obtain⟨t,e⟩:=(show ∃t,u=Value.int i t from r);subst e;exact oF P w i t
 | inr x=>obtain⟨t,e⟩:=(show ∃t,u=Value.str x t from r);subst e;exact oG P w x t
theorem tm {P:Program}{w:World}:∀{ks:List Key} {us:List Value},Vals (ks.map kV) us->ItemsAre (aW P w) ks us
 | [],_,r=>by rw [HG] at r;cases r;exact .nil
 | k::ks,_,r=>by
  rw [GS] at r
  cases r with
  | cons h t=>exact .cons (mj h) (tm t)
abbrev KT (H:Hp):List (List Key×V)->List (List Key×Addr×Value)->Prop:=Paired fun p q=>p.1=q.1/\H q.2.1=some (.tup (p.1.map kV))/\RelV p.2 q.2.2
theorem KT.val {H:Hp}{kvs:List (List Key×V)}{xs:List (List Key×Addr×Value)}(r:KT H kvs xs)(k:List Key):gB (cX kvs k) ((atKey xs k).map (·.2)):=by
 induction r with
 | nil=>exact True.intro
 | @cons p q ps qs h t ih =>
  obtain⟨h1,_,h2⟩:=h
  by_cases e:p.1=k
  ·have e':q.1=k:=h1.symm.trans e
   have b:atKey (q::qs) k=some q.2:=by simp [atKey,HJ,e']
   rw [dD e,b];exact h2
  ·have e':¬q.1=k:=fun z=>e (h1.trans z)
   have b:atKey (q::qs) k=atKey qs k:=by simp [atKey,HJ,e']
   rw [dE e,b];exact ih
theorem KT.AO {H:Hp}{kvs:List (List Key×V)}{xs:List (List Key×Addr×Value)}(r:KT H kvs xs)(k:List Key){y:V}{u:Value}(ry:RelV y u) :
  KT H (kvs.map fun kv=>if kv.1=k then (kv.1,y) else kv) (xs.map (putAt k u)):=by
 induction r with
 | nil=>exact .nil
 | @cons p q ps qs h t ih =>
  rw [GS,GS]
  refine .cons ?_ ih
  obtain⟨h1,h2,h3⟩:=h
  unfold putAt
  by_cases e:p.1=k
  ·rw [if_pos e,if_pos (h1.symm.trans e)];exact⟨h1,h2,ry⟩
  ·rw [if_neg e,if_neg (fun z=>e (h1.trans z))];exact⟨h1,h2,h3⟩
theorem KT.put {H:Hp}{kvs:List (List Key×V)}{xs:List (List Key×Addr×Value)}(r:KT H kvs xs)(k:List Key){b:Addr}{y:V}{u:Value}(hb:H b=some (.tup (k.map kV)))(ry:RelV y u) :
  KT H (putK kvs k y) (storedH xs k b u):=by
 have e:(kvs.any fun kv=>decide (kv.1=k))=(atKey xs k).isSome:=by
  rw [mi,(r.val k).nj,Option.isSome_map]
 unfold putK storedH
 rw [e]
 by_cases q:(atKey xs k).isSome=true
 ·rw [if_pos q,if_pos q];exact r.AO k ry
 ·rw [if_neg q,if_neg q];exact Paired.snoc r ⟨rfl,hb,ry⟩
theorem KT.keeps {H H':Hp}{kvs:List (List Key×V)}{xs:List (List Key×Addr×Value)}(r:KT H kvs xs)(ht:∀b ys,H b=some (.tup ys)->H' b=some (.tup ys)):KT H' kvs xs :=
 Paired.An r fun _ _ z=>⟨z.1,ht _ _ z.2.1,z.2.2⟩
section
variable {P:Program}{w:World}{H:Hp}{h:Heap}{a:Addr}
theorem Cc {u:HO}(ok:eG P w H h)(e:Rd H a u):cA P w H h a u:=e.ok ok
theorem ml {kvs:List (Key×V)}(ok:eG P w H h)(e:Rd H a (.dK kvs)):kvs.length<=sizeLine/\(a == sysModules)=false/\∃vs,KV kvs vs/\h.DictOf (aW P w) a vs :=
 show cA P w H h a (.dK kvs) from Cc ok e
theorem ya {kvs:List (Key×V)}(ok:eG P w H h)(e:H a=some (.dK kvs)):kvs.length<=sizeLine/\(a == sysModules)=false/\∃vs,KV kvs vs/\h.DictOf (aW P w) a vs:=ml ok (.inl e)
theorem nq {ks:List Key}(ok:eG P w H h)(e:H a=some (.tup (ks.map kV))):(tupleKind (aW P w)).is h ks a:=by
 obtain⟨_,its,r,o,h1,h2,n,h3⟩:=(show cA P w H h a (.tup (ks.map kV)) from ok a _ e)
 exact⟨o,its.toArray,n,h1,h2,h3.1,by simpa using tm r⟩
theorem og {kvs:List (List Key×V)}(ok:eG P w H h)(e:Rd H a (.dT kvs)):kvs.length<=sizeLine/\(a == sysModules)=false /\
  ∃xs,KT H kvs xs/\h.DictOfH (tupleKind (aW P w)) a xs:=by
 obtain⟨z,y,xs,r,o,es,ep,h1,h2,h3,h4,h5⟩:=(show cA P w H h a (.dT kvs) from Cc ok e)
 refine⟨z,y,xs,r,o,es,ep,h1,h2,h3,h4,fun x hx=>?_,h5⟩
 have all:∀{l:List (List Key×V)} {m:List (List Key×Addr×Value)},KT H l m->∀x∈m,(tupleKind (aW P w)).is h x.1 x.2.1:=by
  intro l m q
  induction q with
  | nil=>intro x hx;exact nomatch hx
  | @cons p q ps qs hq t ih =>
   intro x hx
   rcases Gu.mp hx with e | hx
   ·subst e
    exact nq ok (by rw [<-hq.1];exact hq.2.1)
   ·exact ih x hx
 exact all r x hx
theorem EG {kvs:List (List Key×V)}(ok:eG P w H h)(e:H a=some (.dT kvs)):kvs.length<=sizeLine/\(a == sysModules)=false /\
  ∃xs,KT H kvs xs/\h.DictOfH (tupleKind (aW P w)) a xs:=og ok (.inl e)
end
def dU (H:Hp)(a:Addr)(y:V)(r:Option V):Prop :=
 (∃kvs k,Rd H a (.dK kvs)/\y=kV k/\r=cX kvs k)\/∃kvs k b,Rd H a (.dT kvs)/\y=.ref b/\H b=some (.tup (k.map kV))/\r=cX kvs k
def iu (H:Hp)(a:Addr)(y v:V)(H':Hp):Prop :=
 (∃kvs k,H a=some (.dK kvs)/\y=kV k/\kvs.length<sizeLine/\H' = upd H a (.dK (putK kvs k v))) \/
 ∃kvs k b,H a=some (.dT kvs)/\y=.ref b/\H b=some (.tup (k.map kV))/\kvs.length<sizeLine/\H' = upd H a (.dT (putK kvs k v))
theorem dU.k {H:Hp}{a:Addr}{kvs:List (Key×V)}{k:Key}(e:H a=some (.dK kvs)):dU H a (kV k) (cX kvs k):=.inl ⟨kvs,k,.inl e,rfl,rfl⟩
theorem iu.k {H:Hp}{a:Addr}{kvs:List (Key×V)}{k:Key}{v:V}(e:H a=some (.dK kvs))(hl:kvs.length<sizeLine):iu H a (kV k) v (upd H a (.dK (putK kvs k v))):=.inl ⟨kvs,k,e,rfl,hl,rfl⟩
section
variable {X:Cx}{pins:List (Addr×Obj)}{Gd : St}{H:Hp}{s:Shared}{a:Addr}{y v:V}{u r:Value}{o:Option V}{A:Around}{E:Value->Shared->Prop}
theorem Inv.big (I:Inv X pins Gd H s):sysModules<s.heap.objs.size:=by
 have h:mainGlobals<s.heap.objs.size:=(I.mod.glob.keeps I.bk).lt
 exact Iw (by decide) h
theorem zr {Q:Value->Shared->Prop}(hu:A.units+1<cLine)(I:Inv X pins Gd H s)(g:dU H a y (some v))(ry:RelV y u)(h:∀w' s',Inv X pins Gd H s'->RelV v w'->Q w' s') :
  wpAny (model X.prog X.w) A (getItem (.ref a) u) Q E s:=by
 rcases g with ⟨kvs,k,e,ey,l⟩ | ⟨kvs,k,b,e,ey,eb,l⟩
 ·subst ey
  obtain⟨z,hd,vs,rel,dd⟩:=ml I.aZ e
  obtain⟨w',hw,rw'⟩:=gB.some_of (v:=v) (o:=valueAt vs k) (by rw [l];exact rel.val k)
  exact wpAny_getItem_of (mj ry) dd.mapOf hw (h w' _ (I.tok _) rw')
 ·subst ey
  cases (show u=Value.ref b from ry)
  obtain⟨z,hd,xs,rel,dd⟩:=og I.aZ e
  obtain⟨w',hw,rw'⟩:=gB.some_of (v:=v) (o:=(atKey xs k).map (·.2)) (by rw [l];exact rel.val k)
  obtain⟨p,hp,hp2⟩:=Option.map_eq_some_iff.mp hw
  refine wpAny_getItem_heap (tupleKind_room_in1 hu) (nq I.aZ eb) dd hp ?_
  rw [hp2]
  exact h w' _ (I.tok _) rw'
theorem CL {Q:Value->Shared->Prop}(hu:A.units+1<cLine)(I:Inv X pins Gd H s)(g:dU H a y o)(ry:RelV y u)(h:∀s',Inv X pins Gd H s'->Q (.bool (!o.isSome)) s') :
  wpAny (model X.prog X.w) A (compareOp .NotIn u (.ref a)) Q E s:=by
 rcases g with ⟨kvs,k,e,ey,l⟩ | ⟨kvs,k,b,e,ey,eb,l⟩
 ·subst ey
  obtain⟨z,hd,vs,rel,dd⟩:=ml I.aZ e
  refine wpAny_notIn_of (mj ry) hd dd.mapOf ?_
  rw [<-(rel.val k).nj,<-l]
  exact h _ (I.tok _)
 ·subst ey
  cases (show u=Value.ref b from ry)
  obtain⟨z,hd,xs,rel,dd⟩:=og I.aZ e
  refine wpAny_notIn_heap (tupleKind_room_in1 hu) (nq I.aZ eb) hd dd ?_
  have q:=(rel.val k).nj
  rw [Option.isSome_map] at q
  rw [<-q,<-l]
  exact h _ (I.tok _)
theorem rL {h':Heap}{t':Nat}{ob:HO}(I:Inv X pins Gd H s)(mu:yV (H a))(hs:GX a s.heap h')(he:∃q,h'.get? a=some q)(new:cA X.prog X.w (upd H a ob) h' a ob) :
  Inv X pins Gd (upd H a ob) { s with heap:=h',toks:=t' } :=
 I.write (x:=a) (e:=a) mu (.inl rfl) (fun b q hb z=>(hs.2 b hb).trans z) he new
theorem qu {P:Program}{w:World}{H':Hp}{h':Heap}{kvs:List (Key×V)}{vs:List (Key×Value)}(z:kvs.length<=sizeLine)(hd:(a == sysModules)=false)(rel:KV kvs vs)(dd:h'.DictOf (aW P w) a vs) :
  cA P w H' h' a (.dK kvs):=⟨z,hd,vs,rel,dd⟩
theorem zt {H':Hp}{Q:Unit->Shared->Prop}(hu:A.units+1<cLine)(I:Inv X pins Gd H s)(g:iu H a y v H')(ry:RelV y u)(rv:RelV v r)(h:∀s',Inv X pins Gd H' s'->Q () s') :
  wpAny (model X.prog X.w) A (setItem (.ref a) u r) Q E s:=by
 rcases g with ⟨kvs,k,e,ey,l,eH⟩ | ⟨kvs,k,b,e,ey,eb,l,eH⟩
 ·subst ey eH
  obtain⟨z,hd,vs,rel,dd⟩:=ya I.aZ e
  have hz:vs.length<=sizeLine:=by rw [<-rel.length];exact z
  have hl:(putK kvs k v).length<=sizeLine:=by have:=dJ kvs k v;omega
  refine wpAny_setItem_pairs (hsz:=hz) (mj ry) dd fun h' dd' hs=>h _ ?_
  have he:∃q,h'.get? a=some q:=let ⟨q,_,_,hq,_⟩:=dd';⟨q,hq⟩
  exact rL I (by rw [e];exact True.intro) hs he (qu hl hd (rel.put k rv) dd')
 ·subst ey eH
  cases (show u=Value.ref b from ry)
  obtain⟨z,hd,xs,rel,dd⟩:=EG I.aZ e
  have hz:xs.length<=sizeLine:=by rw [<-Paired.length rel];exact z
  have hl:(putK kvs k v).length<=sizeLine:=by have:=dJ kvs k v;omega
  refine wpAny_setItem_heap (hsz:=hz) (tupleKind_room_in1 hu) (nq I.aZ eb) dd fun h' dd' hs=>h _ ?_
  obtain⟨q,es,ep,hq,h2,h3,h4,_,h5⟩:=dd'
  refine rL I (by rw [e];exact True.intro) hs ⟨q,hq⟩ ⟨hl,hd,_,(rel.put k eb rv).keeps fun c ys ec=>?_,q,es,ep,hq,h2,h3,h4,h5⟩
  rw [ai (bB ec e (fun z=>nomatch z))]
  exact ec
end
section
variable {X:Cx}{pins:List (Addr×Obj)}{Gd : St}{H:Hp}{s:Shared}{a:Addr}{kvs:List (Key×V)}{k:Key}{u:Value}{A:Around}{E:Value->Shared->Prop}
end
def yb (i:Expr):Prop:=∀ov iv,subscripted i false ov iv=operate [ov,iv] (getItem ov iv)
theorem rM {prog:Program}{w:World}{A:Around}{E:Value->Shared->Prop}{s:Shared}{env:Env}{value slice:Expr}{pos:Pos}{T id:String}{Q:Value->Shared->Prop}
  (hl:typeLookup (.type T) "__getitem__" = pure (some (.builtin id))) (hs:yb slice)
  (h:wpAny (model prog w) A (eval value env) (fun o s₁=>wpAny (model prog w) A (eval slice env) (fun i s₂=>s₂.TypeIs o T/\wpAny (model prog w) A (getItem o i) Q E s₂) E s₁) E s) :
  wpAny (model prog w) A (eval (.Subscript value slice pos) env) Q E s:=by
 refine Subscript_ (Ja h (fun o s₁ h₁=>Ja h₁ (fun i s₂ h₂=>?_) fun _ _ x=>x) fun _ _ x=>x)
 obtain⟨hT,h₂⟩:=h₂
 unfold subscriptTail
 refine IZ ?_
 rw [getitemInPython_of_ne hT.not_modules]
 refine IZ (wpAny_specialOf hT hl ?_)
 have fin:wpAny (model prog w) A (subscripted slice false o i) (fun r s₃=>wpAny (model prog w) A (letTemporaryGo value o r >>= fun _=>pure r) Q E s₃) E s₂:=by
  rw [hs o i]
  exact wpAny_operating (Ja h₂ (fun r s₃ h₃=>IZ (wpAny_letTemporaryGo (I0 h₃))) fun _ _ x=>x)
 first
  | exact I0 (IZ fin)
  | exact IZ (I0 (IZ fin))
  | exact IZ fin
theorem v7 {X:Cx} {pins:List (Addr×Obj)} {Gd : St} {H:Hp} {s:Shared} {a:Addr} {y:V} {o:Option V} (I:Inv X pins Gd H s) (g:dU H a y o):s.TypeIs (.ref a) "dict" := by
 rcases g with ⟨kvs,k,e,_,_⟩ | ⟨kvs,k,b,e,_,_,_⟩
 ·obtain⟨_,_,vs,_,dd⟩:=ml I.aZ e
  exact dd.typeIs
 ·obtain⟨_,_,xs,_,dd⟩:=og I.aZ e
  exact dd.typeIs
def EH (td ty:TE):TE:=fun Gd H Q=>td Gd H fun x H1=>ty Gd H1 fun y H2=>∃a v,x=.ref a/\dU H2 a y (some v)/\Q v H2
def CM (ty td:TE):TE:=fun Gd H Q=>ty Gd H fun y H1=>td Gd H1 fun x H2=>∃a o,x=.ref a/\dU H2 a y o/\Q (.bl (!o.isSome)) H2
def EI (td ty tv:TE):TS:=fun D Gd H=>tv Gd H fun v H1=>td Gd H1 fun x H2=>ty Gd H2 fun y H3=>∃a H4,x=.ref a/\iu H3 a y v H4/\D.nx Gd H4
section
variable {X:Cx}{o i e value:Expr}{pos pos' tpos:Pos}{td ty tv:TE}
theorem rN (hu:X.A.units+1<cLine)(ho:PE X o td)(hi:PE X i ty)(hs:yb i):PE X (.Subscript o i pos) (EH td ty):=by
 intro pins s Gd H Q I h
 refine rM PySem.F.slot_dict_getitem.lookup hs (bo (ho pins s Gd H _ I h) fun u s1 ⟨x,H1,I1,rx,q1⟩=>bo (hi pins s1 Gd H1 _ I1 q1) fun iv s2 ⟨y,H2,I2,ry,a,v,ex,g,q2⟩=>?_)
 subst ex
 obtain rfl:u=Value.ref a:=rx
 exact⟨v7 I2 g,zr hu I2 g ry fun w' s3 I3 rw'=>⟨v,H2,I3,rw',q2⟩⟩
theorem zu (hu:X.A.units+1<cLine)(hi:PE X i ty)(ho:PE X o td):PC X .NotIn i o (CM ty td):=by
 intro pins s Gd H Q I h
 refine bo (hi pins s Gd H _ I h) fun iv s1 ⟨y,H1,I1,ry,q1⟩=>bo (ho pins s1 Gd H1 _ I1 q1) fun u s2 ⟨x,H2,I2,rx,a,ov,ex,g,q2⟩=>?_
 subst ex
 obtain rfl:u=Value.ref a:=rx
 exact CL hu I2 g ry fun s3 I3=>⟨.bl (!ov.isSome),H2,I3,rfl,q2⟩
theorem fI (hu:X.A.units+1<cLine)(ho:PE X o td)(hi:PE X i ty)(hv:PE X value tv)(hs:swapsWith value (some (.Subscript o i pos')) pos.line X.env=pure false) :
  PS X (.Assign [.Subscript o i pos'] value pos) (EI td ty tv):=by
 intro pins s Gd H D I h
 refine wpAny_Assign_Subscript (bo (hv pins s Gd H _ I h) fun r s1 ⟨v,H1,I1,rv,q1⟩=>bo (ho pins s1 Gd H1 _ I1 q1) fun u s2 ⟨x,H2,I2,rx,q2⟩=>bo (hi pins s2 Gd H2 _ I2 q2) fun iv s3 ⟨y,H3,I3,ry,a,H4,ex,g,q3⟩=>?_) hs
 subst ex
 obtain rfl:u=Value.ref a:=rx
 exact zt hu I3 g ry rv fun s4 I4=>⟨Gd,H4,I4,q3⟩
end
theorem pA {P:Program}{w:World}{H:Hp}(h:Heap)(hb:sysModules<h.objs.size):cA P w H (h.push { cls:=.type "dict",data:=.dict #[] }) h.objs.size (.dK []) :=
 ⟨GK _,beq_eq_false_iff_ne.mpr (Ne.symm (Gw hb)),[],.nil,Heap.DictOf.new h⟩
def DS:TE:=fun _ H Q=>∀p,H p=none->Q (.ref p) (upd H p (.dK []))
section
variable {X:Cx}{pos:Pos}
theorem uX:PE X (.Dict [] [] pos) DS:=fun pins s Gd H Q I h =>
 wpAny_Dict_empty ⟨.ref s.heap.objs.size,_,I.laid (a:=s.heap.objs.size) (o:=.dK []) (t':=s.toks) (fun _ _ q=>Gs _ q) (Gi _) (pA s.heap I.big),rfl,h _ (I.aZ.fresh (Gi _))⟩
end
def qv:List (TE×TE)->St->Hp->(List (V×V)->Hp->Prop)->Prop
 | [],_,H,Q=>Q [] H
 | (tk,tv)::r,Gd,H,Q=>tk Gd H fun x H1=>tv Gd H1 fun y H2=>qv r Gd H2 fun ps H3=>Q ((x,y)::ps) H3
abbrev VV:List (V×V)->List (Value×Value)->Prop:=Paired fun p q=>RelV p.1 q.1/\RelV p.2 q.2
def zw (X:Cx)(pos:Pos)(keys:List (Option Expr))(values:List Expr)(trs:List (TE×TE)):Prop :=
 ∀(pins:List (Addr×Obj)) (s:Shared) (Gd : St) (H:Hp) (Q:List (V×V)->Hp->Prop),Inv X pins Gd H s->qv trs Gd H Q ->
  wpAny (model X.prog X.w) X.A (evalPairs (pairTrees keys values X.env pos)) (fun vs s'=>∃ps H',Inv X pins Gd H' s'/\VV ps vs/\Q ps H') X.xe s
theorem xc {X:Cx}{pos:Pos}:zw X pos [] [] []:=fun pins s Gd H Q I h=>pairTrees_nil_walk ⟨[],H,I,.nil,h⟩
theorem uY {X:Cx}{pos:Pos}{k v:Expr}{ks:List (Option Expr)}{vs:List Expr}{tk tv:TE}{trs:List (TE×TE)}(hk:PE X k tk)(hv:PE X v tv)(hr:zw X pos ks vs trs) :
  zw X pos (some k::ks) (v::vs) ((tk,tv)::trs):=fun pins s Gd H Q I h =>
 pairTrees_cons_walk (bo (hk pins s Gd H _ I h) fun u s1 ⟨x,H1,I1,rx,q1⟩=>bo (hv pins s1 Gd H1 _ I1 q1) fun w2 s2 ⟨y,H2,I2,ry,q2⟩ =>
  bo (hr pins s2 Gd H2 _ I2 q2) fun ws s3 ⟨ps,H3,I3,rel,q3⟩=>⟨(x,y)::ps,H3,I3,.cons ⟨rx,ry⟩ rel,q3⟩)
def nu (kvs more:List (Key×V)):List (Key×V):=more.foldl (fun acc kv=>putK acc kv.1 kv.2) kvs
theorem KV.merge:∀{more:List (Key×V)} {rs:List (Key×Value)} {kvs:List (Key×V)} {vs:List (Key×Value)},KV more rs->KV kvs vs->KV (nu kvs more) (merged vs rs):=by
 intro more rs kvs vs r
 unfold KV at r
 induction r generalizing kvs vs with
 | nil=>intro q;exact q
 | @cons p q ps qs h t ih =>
  intro r0
  have e:KV (putK kvs p.1 p.2) (stored vs q.1 q.2):=by
   have:=r0.put p.1 h.2
   rw [<-h.1];exact this
  exact ih e
theorem mP:∀(more kvs:List (Key×V)),(nu kvs more).length<=kvs.length+more.length
 | [],kvs=>by show kvs.length<=kvs.length+0;omega
 | p::r,kvs=>by
  have h1:=mP r (putK kvs p.1 p.2)
  have h2:=dJ kvs p.1 p.2
  show (nu (putK kvs p.1 p.2) r).length<=_
  rw [GZ];omega
theorem qw {P:Program}{w:World}:∀{kvs:List (Key×V)} {ws:List (Value×Value)},VV (kvs.map fun kv=>(kV kv.1,kv.2)) ws->∃rs,Carries (aW P w) ws rs/\KV kvs rs
 | [],_,r=>by rw [HG] at r;cases r;exact⟨[],True.intro,.nil⟩
 | p::kvs,_,r=>by
  rw [GS] at r
  cases r with
  | @cons a b as bs h t =>
   obtain⟨rs,c,q⟩:=qw (P:=P) (w:=w) t
   obtain⟨b1,b2⟩:=b
   exact⟨(p.1,b2)::rs,⟨mj h.1,rfl,c⟩,.cons ⟨rfl,h.2⟩ q⟩
def EJ (trs:List (TE×TE)):TE:=fun Gd H Q=>∀p,H p=none->qv trs Gd (upd H p (.dK [])) fun ps H2=>H2 p=some (.dK [])/\∃kvs:List (Key×V),ps=kvs.map (fun kv=>(kV kv.1,kv.2))/\kvs.length<=15/\Q (.ref p) (upd H2 p (.dK (nu [] kvs)))
theorem CN {X:Cx}{pos:Pos}{keys:List (Option Expr)}{values:List Expr}{trs:List (TE×TE)}(h:zw X pos keys values trs)(hall:keys.all (·.isSome)=true)(hl:keys.length=values.length)(h0:keys≠[])
  (h15:keys.length<=15):PE X (.Dict keys values pos) (EJ trs):=by
 intro pins s Gd H Q I q
 have hn:=I.aZ.fresh (Gi s.heap.objs.size)
 have I1:=I.laid (a:=s.heap.objs.size) (o:=.dK []) (h':=s.heap.push { cls:=.type "dict",data:=.dict #[] }) (t':=s.toks) (fun _ _ q=>Gs _ q) (Gi _) (pA s.heap I.big)
 refine wpAny_Dict_walk (knd:=aW X.prog X.w) hall hl h0 h15 (bo (h pins _ Gd _ _ I1 (q _ hn)) fun ws s2 ⟨ps,H2,I2,rel,e,kvs,ep,lk,q2⟩=>?_)
 subst ep
 obtain⟨rs,c,rk⟩:=qw (P:=X.prog) (w:=X.w) rel
 obtain⟨z,hd,vs0,r0,dd⟩:=ya I2.aZ e
 cases r0
 refine⟨rs,c,dd,fun h' dd' hs=>⟨.ref s.heap.objs.size,_,?_,rfl,q2⟩⟩
 have hz:(nu [] kvs).length<=sizeLine:=by
  have h1:=mP kvs []
  rw [HV] at h1
  rw [sizeLine_eq];omega
 have he:∃q,h'.get? s.heap.objs.size=some q:=let ⟨q,_,_,hq,_⟩:=dd';⟨q,hq⟩
 exact rL I2 (by rw [e];exact True.intro) hs he (qu hz hd (rk.merge .nil) dd')
structure M2 (X:Cx) (o:Expr) (m:Str) (apos:Pos) (e f:Expr) (cpos:Pos):Prop where
 base:attributeBase o m X.env (eval o X.env)=eval o X.env
 bK:((backTo cpos (starEach [e,f] X.env)).all (fun x=>!x.1)&&(backToKw cpos (keywordEach [] X.env)).all (fun x=>x.1.isSome)
  && decide (([e,f]:List Expr).length+([]:List Keyword).length+(if ([]:List Keyword).isEmpty then 0 else 1)<30))=true
 line:(apos.endLine == cpos.line)=true
 trees:backTo cpos (starEach [e,f] X.env)=[(false,eval e X.env),(false,eval f X.env)]
def E1 (H:Hp)(a:Addr):Prop:=(∃kvs,Rd H a (.dK kvs))\/∃kvs,Rd H a (.dT kvs)
theorem DT {X:Cx}{pins:List (Addr×Obj)}{Gd : St}{H:Hp}{s:Shared}{a:Addr}(I:Inv X pins Gd H s)(d:E1 H a) :
  s.TypeIs (.ref a) "dict" /\ (∀b,Value.ref a=.ref b->∃ob,s.heap.get? b=some ob/\ob.dict=none)/\(a == sysModules)=false:=by
 rcases d with ⟨kvs,e⟩ | ⟨kvs,e⟩
 ·obtain⟨_,hd,vs,_,dd⟩:=ml I.aZ e
  refine⟨dd.typeIs,fun b q=>?_,hd⟩
  cases q
  obtain⟨ob,_,_,h1,h2,_⟩:=dd
  exact⟨ob,h1,h2.2.1⟩
 ·obtain⟨_,hd,xs,_,dd⟩:=og I.aZ e
  refine⟨dd.typeIs,fun b q=>?_,hd⟩
  cases q
  obtain⟨ob,_,_,h1,h2,_⟩:=dd
  exact⟨ob,h1,h2.2.1⟩
section
variable {X:Cx}{pins:List (Addr×Obj)}{Gd : St}{H:Hp}{s:Shared}{a:Addr}{y d:V}{u r:Value}{o:Option V}{A:Around}{E:Value->Shared->Prop}
theorem DU {Q:Value->Shared->Prop}(hu:A.units+1<cLine)(I:Inv X pins Gd H s)(g:dU H a y o)(ry:RelV y u)(rd:RelV d r)(h:∀w' s',Inv X pins Gd H s'->RelV (o.getD d) w'->Q w' s') :
  wpAny (model X.prog X.w) A (call (.builtin "dict.get") [.ref a,u,r]) Q E s:=by
 rcases g with ⟨kvs,k,e,ey,l⟩ | ⟨kvs,k,b,e,ey,eb,l⟩
 ·subst ey
  obtain⟨z,hd,vs,rel,dd⟩:=ml I.aZ e
  refine call_meetsIn PySem.F.slot_dict_get dd.typeIs PySem.F.entry_dict_get (PySem.F.args_dict_get_3 _ _ _) (meets_dict_get_default (aW X.prog X.w) a (mj ry) hd r) ⟨_,dd.mapOf,h _ _ (I.tok _) ?_⟩
  rw [l]
  exact (rel.val k).getD rd
 ·subst ey
  cases (show u=Value.ref b from ry)
  obtain⟨z,hd,xs,rel,dd⟩:=og I.aZ e
  refine call_meetsIn PySem.F.slot_dict_get dd.typeIs PySem.F.entry_dict_get (PySem.F.args_dict_get_3 _ _ _) (meetsH_dict_get_default (tupleKind (aW X.prog X.w)) a b hd r) ⟨tupleKind_room_in1 hu,k,xs,nq I.aZ eb,dd,h _ _ (I.tok _) ?_⟩
  rw [l]
  exact (rel.val k).getD rd
end
section
variable {X:Cx}{o e f:Expr}{apos cpos:Pos}{td ty tx:TE}
end
section
variable {X:Cx}{pins:List (Addr×Obj)}{Gd : St}{H:Hp}{s:Shared}{a:Addr}{kvs:List (Key×V)}{A:Around}{E:Value->Shared->Prop}
theorem AQ {Q:Value->Shared->Prop} (I:Inv X pins Gd H s) (e:Rd H a (.dK kvs)) (h:∀p s',H p=none->Inv X pins Gd (upd H p (.dK kvs)) s'->Q (.ref p) s'):wpAny (model X.prog X.w) A (call (.type "dict") [.ref a]) Q E s:=by
 obtain⟨z,hd,vs,rel,dd⟩:=ml I.aZ e
 refine kt_call_dict hd dd (by rw [<-rel.length];exact z) fun h' dd' hs=>?_
 refine h _ _ (I.aZ.fresh (Gi _)) (I.laid (a:=s.heap.objs.size) (o:=.dK kvs) (t':=s.toks) (fun b q hq=>?_) (Gi _) (qu z (beq_eq_false_iff_ne.mpr (Ne.symm (Gw I.big))) rel dd'))
 exact (hs.2 b (Gw (Gq hq))).trans (Gs _ hq)
end
section
variable {X:Cx}{pins:List (Addr×Obj)}{Gd : St}{H:Hp}{s:Shared}{a:Addr}{y:V}{u:Value}{A:Around}{E:Value->Shared->Prop}
end
section
variable {X:Cx}
end
section
variable {κ : Type}[DecidableEq κ]
end
theorem aX.bN {H:Hp}{v:V}{ds:List PyData}(h:aX H v (.tuple ds)):∃p xs,v=.ref p/\H p=some (.tup xs)/\br H xs ds:=by
 cases h with
 | tup e r=>exact⟨_,_,rfl,e,r⟩
theorem aX.int_inv {H:Hp}{v:V}{i:Int}(h:aX H v (.int i)):v=.int i:=by cases h;rfl
theorem aX.str_inv {H:Hp}{v:V}{x:Str}(h:aX H v (.str x)):v=.str x:=by cases h;rfl
theorem br.cons_inv {H:Hp}{xs:List V}{d:PyData}{ds:List PyData}(h:br H xs (d::ds)):∃x r,xs=x::r/\aX H x d/\br H r ds:=by
 cases h with
 | cons a b=>exact⟨_,_,rfl,a,b⟩
theorem br.nil_inv {H:Hp}{xs:List V}(h:br H xs []):xs=[]:=by cases h;rfl
theorem br.get {H:Hp}:∀{xs:List V} {ds:List PyData} {i:Nat} {d:PyData},br H xs ds->ds[i]?=some d->∃x,xs[i]?=some x/\aX H x d
 | _,_,_,_,.nil,e=>by simp at e
 | _,_,0,_,.cons r _,e=>by
  simp at e
  subst e
  exact⟨_,rfl,r⟩
 | _,_,i+1,d,.cons _ t,e=>by
  obtain⟨x,h1,h2⟩:=br.get (i:=i) (d:=d) t (by simpa using e)
  exact⟨x,by simpa using h1,h2⟩
theorem br.ints {H:Hp}:∀{xs:List V} {ns:List Int},br H xs (ns.map PyData.int)->xs=ns.map V.int
 | _,[],h=>h.nil_inv
 | _,n::ns,h=>by
  obtain⟨x,r,rfl,h1,h2⟩:=h.cons_inv
  rw [h1.int_inv,br.ints h2]
  rfl
def jg:cH->List V
 | .put x n=>[.str "put",.str x,.int n]
 | .copy x y=>[.str "copy",.str x,.str y]
 | .add x n=>[.str "add",.str x,.int n]
 | .read x=>[.str "read",.str x]
 | .tell x=>[.str "tell",.str x]
def fg:End->List V
 | .stop=>[.str "stop"]
 | .go p=>[.str "go",.int p]
 | .cE b x n p q=>[.str (wT b),.str x,.int n,.int p,.int q]
theorem lM {H:Hp}{v:V}{d:cH}(h:aX H v (dI d)):∃p,v=.ref p/\H p=some (.tup (jg d)):=by
  cases d <;> (
    obtain⟨p,xs,rfl,e,r⟩:=aX.bN h
    obtain⟨x1,r1,rfl,h1,r⟩:=r.cons_inv
    obtain⟨x2,r2,rfl,h2,r⟩:=r.cons_inv
    first
      | (obtain⟨x3,r3,rfl,h3,r⟩:=r.cons_inv
         have z:=r.nil_inv
         subst z
         refine⟨p,rfl,?_⟩
         first
           | rw [e,h1.str_inv,h2.str_inv,h3.int_inv];rfl
           | rw [e,h1.str_inv,h2.str_inv,h3.str_inv];rfl)
      | (have z:=r.nil_inv
         subst z
         refine⟨p,rfl,?_⟩
         rw [e,h1.str_inv,h2.str_inv];rfl))
theorem DV {H:Hp}{v:V}{e:End}(h:aX H v (ni e)):∃p,v=.ref p/\H p=some (.tup (fg e)):=by
 cases e with
 | stop =>
  obtain⟨p,xs,rfl,e,r⟩:=aX.bN h
  obtain⟨x1,r1,rfl,h1,r⟩:=r.cons_inv
  have z:=r.nil_inv
  subst z
  exact⟨p,rfl,by rw [e,h1.str_inv];rfl⟩
 | go q =>
  obtain⟨p,xs,rfl,e,r⟩:=aX.bN h
  obtain⟨x1,r1,rfl,h1,r⟩:=r.cons_inv
  obtain⟨x2,r2,rfl,h2,r⟩:=r.cons_inv
  have z:=r.nil_inv
  subst z
  exact⟨p,rfl,by rw [e,h1.str_inv,h2.int_inv];rfl⟩
 | cE b x n q q' =>
  obtain⟨p,xs,rfl,e,r⟩:=aX.bN h
  obtain⟨x1,r1,rfl,h1,r⟩:=r.cons_inv
  obtain⟨x2,r2,rfl,h2,r⟩:=r.cons_inv
  obtain⟨x3,r3,rfl,h3,r⟩:=r.cons_inv
  obtain⟨x4,r4,rfl,h4,r⟩:=r.cons_inv
  obtain⟨x5,r5,rfl,h5,r⟩:=r.cons_inv
  have z:=r.nil_inv
  subst z
  exact⟨p,rfl,by rw [e,h1.str_inv,h2.str_inv,h3.int_inv,h4.int_inv,h5.int_inv];rfl⟩
theorem eX {H:Hp}{v:V}{ps:List Piece}{i:Nat}{ds:List cH}{e:End}(h:aX H v (cN ps))(hi:ps[i]?=some (ds,e)) :
  ∃p xs pc da ea vs,v=.ref p/\H p=some (.tup xs)/\xs.length=ps.length/\xs[i]?=some (.ref pc)/\H pc=some (.tup [.ref da,.ref ea])/\H da=some (.tup vs)/\br H vs (ds.map dI)/\H ea=some (.tup (fg e)):=by
 obtain⟨p,xs,rfl,e1,r⟩:=aX.bN h
 have hl:=r.len
 obtain⟨x,hx,rx⟩:=r.get (i:=i) (d:=df (ds,e)) (by rw [GI,hi];rfl)
 obtain⟨pc,ys,rfl,e2,r2⟩:=aX.bN rx
 obtain⟨y1,t1,rfl,q1,r2⟩:=r2.cons_inv
 obtain⟨y2,t2,rfl,q2,r2⟩:=r2.cons_inv
 have z:=r2.nil_inv
 subst z
 obtain⟨da,vs,rfl,e3,r3⟩:=aX.bN q1
 obtain⟨ea,rfl,e4⟩:=DV q2
 exact⟨p,xs,pc,da,ea,vs,rfl,e1,by rw [hl,Gg],hx,e2,e3,r3,e4⟩
theorem cM {n:Nat}(h:n<=1000000):n<sizeLine:=HH h (by decide)
theorem aU {c:Bool}{A B:Prop}(hc:c=false)(h:B):if c=true then A else B:=by subst hc;exact cq h
theorem bZ {c:Bool}{A B:Prop}(hc:c=true)(h:A):if c=true then A else B:=by subst hc;exact cD h
def CO (td ty tx:TE):TE:=fun Gd H Q=>td Gd H fun x H1=>∃a,x=.ref a/\E1 H1 a/\ty Gd H1 fun y H2=>tx Gd H2 fun z H3=>∃o v,dU H3 a y o/\o.getD z=v/\Q v H3
theorem fQ {X:Cx} {o e f:Expr} {apos cpos:Pos} {td ty tx:TE} (hu:X.A.units+1<cLine) (ho:PE X o td) (he:PE X e ty) (hf:PE X f tx) (m:M2 X o "get" apos e f cpos):PE X (.Call (.Attribute o "get" apos) [e,f] [] cpos) (CO td ty tx):=by
 intro pins s Gd H Q I h
 refine wpAny_Call_method m.base m.bK m.line PySem.F.plainAttrs_dict PySem.F.slot_dict_get PySem.F.type_dict_get (bo (ho pins s Gd H _ I h) fun u s1 ⟨x,H1,I1,rx,a,ex,d,q1⟩=>?_)
 subst ex
 obtain rfl:u=Value.ref a:=rx
 obtain⟨t1,t2,_⟩:=DT I1 d
 refine⟨t1,t2,?_⟩
 rw [m.trees]
 refine Calls.callWith_builtin rfl (Calls.evalArgs_plain (Calls.spliced_cons (bo (he pins s1 Gd H1 _ I1 q1) fun iv s2 ⟨y,H2,I2,ry,q2⟩ =>
  Calls.spliced_cons (bo (hf pins s2 Gd H2 _ I2 q2) fun fv s3 ⟨z,H3,I3,rz,ov,v,g,ev,q3⟩=>Calls.spliced_nil ?_))))
 exact DU hu I3 g ry rz fun w' s4 I4 rw'=>⟨v,H3,I4,by rw [<-ev];exact rw',q3⟩
structure RS where
 aP:Nat
 place:Nat
 w:Str->Int
 taken:Nat
 told:List Int
 word:Str
 bX:List Nat
def iw (w:Str->Int)(x:Str)(n:Int):Str->Int:=fun y=>if y=x then n else w y
def fG (nums:List Int)(S:RS):cH->RS
 | .put x n=>{ S with w:=iw S.w x n,place:=S.place+1 }
 | .copy x y=>{ S with w:=iw S.w x (S.w y),place:=S.place+1 }
 | .add x n=>{ S with w:=iw S.w x (S.w x+n),place:=S.place+1 }
 | .tell x=>{ S with told:=S.told++[S.w x],place:=S.place+1 }
 | .read x=>match nums[S.taken]? with
  | none=>{ S with word := "dry" }
  | some n=>{ S with w:=iw S.w x n,taken:=S.taken+1,place:=S.place+1 }
def fD (b:Bool)(u n:Int):Bool:=if b=true then decide (u<n) else decide (u=n)
def jh (S:RS):End->RS
 | .stop=>{ S with word := "stop" }
 | .go p=>{ S with aP:=p,place:=0,bX:=S.bX++[p] }
 | .cE b x n p q=>{ S with aP:=if fD b (S.w x) n=true then p else q,place:=0,bX:=S.bX++[if fD b (S.w x) n=true then p else q] }
def cB (ps:List Piece)(nums:List Int)(S:RS):RS:=match ps[S.aP]? with
 | none=>S
 | some (ds,e)=>match ds[S.place]? with
  | some d=>fG nums S d
  | none=>jh S e
def DW (kvs:List (Key×V))(w:Str->Int):Prop:=∀x:Str,(cX kvs (Sum.inr x:Key)).getD (.int 0)=.int (w x)
theorem DW.put {kvs:List (Key×V)}{w:Str->Int}(h:DW kvs w)(x:Str)(n:Int):DW (putK kvs (Sum.inr x) (.int n)) (iw w x n):=fun y=>by
 rw [ph]
 unfold iw
 by_cases e:y=x
 ·subst e
  rw [if_pos rfl,if_pos rfl];rfl
 ·rw [if_neg (fun z=>e (Sum.inr.inj z)),if_neg e]
  exact h y
structure fJ (H:Hp) (st d tl bl:Addr) (S:RS) (m:Nat):Prop where
 at_:H st=some (.tup [.int S.aP,.int S.place,.ref d,.int S.taken,.ref tl,.str S.word,.ref bl])
 dict:∃kvs,H d=some (.dK kvs)/\DW kvs S.w/\kvs.length<=m
 told:H tl=some (.lst (S.told.map V.int))
 bX:H bl=some (.lst (S.bX.map fun k=>V.int (k:Nat)))
 ne:tl≠bl
 bK:S.told.length<=m/\S.bX.length<=m+1
def ff (d tl bl:Addr)(H H':Hp):Prop:=∀c o,H c=some o->c≠d->c≠tl->c≠bl->H' c=some o
theorem ff.trans {d tl bl:Addr}{H H1 H2:Hp}(a:ff d tl bl H H1)(b:ff d tl bl H1 H2):ff d tl bl H H2:=fun c o h n1 n2 n3=>b c o (a c o h n1 n2 n3) n1 n2 n3
theorem ff.new {d tl bl p:Addr}{H:Hp}{o:HO}(hp:H p=none):ff d tl bl H (upd H p o):=fun c u h _ _ _=>by rw [ai (aw h hp)];exact h
def bO (ps:List Piece):Prop:=∀p∈ps,match p.2 with
 | .stop=>True
 | .go q=>q<ps.length
 | .cE _ _ _ q r=>q<ps.length/\r<ps.length
theorem cL.qx {xs:List Str}{m:Nat}{ps:List Piece}(h:cL xs m ps):bO ps:=fun p hp=>by
 have:=h.ends p hp
 cases e:p.2 with
 | stop=>exact True.intro
 | go q=>rw [e] at this;exact this
 | cE b x n q r=>rw [e] at this;exact⟨this.2.2.1,this.2.2.2⟩
theorem uZ {ps:List Piece}{nums:List Int}{S:RS}(hp:bO ps)(h:S.aP<ps.length)(ht:S.taken<=nums.length):(cB ps nums S).aP<ps.length/\(cB ps nums S).taken<=nums.length:=by
 unfold cB
 have hx:ps[S.aP]?=some ps[S.aP]:=by simp [h]
 rw [hx]
 generalize hpc:ps[S.aP]=pc
 obtain⟨ds,e⟩:=pc
 have hm:(ds,e)∈ps:=by rw [<-hpc];exact Hz h
 dsimp only
 cases hd:ds[S.place]? with
 | some dd =>
  cases dd with
  | read x =>
   dsimp only [fG]
   cases hn:nums[S.taken]? with
   | none=>exact⟨h,ht⟩
   | some n =>
    have:S.taken<nums.length:=(GQ.mp hn).1
    exact⟨h,this⟩
  | _=>exact⟨h,ht⟩
 | none =>
  have hq:=hp (ds,e) hm
  cases e with
  | stop=>exact⟨h,ht⟩
  | go q=>exact⟨hq,ht⟩
  | cE b x n q r =>
   dsimp only [jh]
   refine⟨?_,ht⟩
   split
   ·exact hq.1
   ·exact hq.2
theorem fJ.oQ {H1:Hp}{st' d tl bl:Addr}{S':RS}{m:Nat}{kvs:List (Key×V)}(h1:H1 d=some (.dK kvs))(dw:DW kvs S'.w)(hk:kvs.length<=m)(t1:H1 tl=some (.lst (S'.told.map V.int)))
  (b1:H1 bl=some (.lst (S'.bX.map fun k=>V.int (k:Nat)))) (ne:tl≠bl) (bK:S'.told.length<=m/\S'.bX.length<=m+1) (hn:H1 st' = none) {xs:List V}
  (ex:xs=[.int S'.aP,.int S'.place,.ref d,.int S'.taken,.ref tl,.str S'.word,.ref bl]):fJ (upd H1 st' (.tup xs)) st' d tl bl S' m:=by
 subst ex
 exact⟨ae,⟨kvs,by rw [ai (aw h1 hn)];exact h1,dw,hk⟩,by rw [ai (aw t1 hn)];exact t1,by rw [ai (aw b1 hn)];exact b1,ne,bK⟩
theorem ff.jN {d tl bl:Addr}{H:Hp}{o:HO}:ff d tl bl H (upd H d o):=fun c u h n _ _=>by rw [ai n];exact h
theorem ff.EK {d tl bl:Addr}{H:Hp}{o:HO}:ff d tl bl H (upd H tl o):=fun c u h _ n _=>by rw [ai n];exact h
theorem ff.Cd {d tl bl:Addr}{H:Hp}{o:HO}:ff d tl bl H (upd H bl o):=fun c u h _ _ n=>by rw [ai n];exact h
theorem jt {ps:List Piece}{nums:List Int}{S:RS}{ds:List cH}{e:End}{dd:cH}(h1:ps[S.aP]?=some (ds,e))(h2:ds[S.place]?=some dd):cB ps nums S=fG nums S dd:=by
 unfold cB
 rw [h1]
 dsimp only
 rw [h2]
theorem gK {ps:List Piece}{nums:List Int}{S:RS}{ds:List cH}{e:End}(h1:ps[S.aP]?=some (ds,e))(h2:ds[S.place]?=none):cB ps nums S=jh S e:=by
 unfold cB
 rw [h1]
 dsimp only
 rw [h2]
def vO:Option Int->V
 | none=>.bL
 | some i=>.int i
def u0:Option Int->Option Int->Prop
 | some a,some b=>a<=b
 | _,_=>True
def kL (n:Int)(lo hi:Option Int):Bool:=(match lo with | none=>true | some a=>decide (a<=n))&&(match hi with | none=>true | some a=>decide (n<=a))
abbrev Rs:=Option (Option Int×Option Int)
def jE (hi:Option Int)(n:Int):Int:=match hi with | none=>n-1 | some h=>if n-1<h then n-1 else h
def ix (lo:Option Int)(n:Int):Int:=match lo with | none=>n | some l=>if n > l then n else l
def gc (lo hi:Option Int)(n:Int):Rs :=
 match lo with | none=>some (none,some (jE hi n)) | some l=>if jE hi n<l then none else some (some l,some (jE hi n))
def gX (lo hi:Option Int)(n:Int):Rs :=
 match hi with | none=>some (some (ix lo n),none) | some h=>if h<ix lo n then none else some (some (ix lo n),some h)
def nv (lo hi:Option Int)(n:Int):Rs:=if kL n lo hi=true then some (some n,some n) else none
def iy (lo hi:Option Int)(n:Int):Rs:=if lo=some n then (if hi=some n then none else some (some (n+1),hi)) else if hi=some n then some (lo,some (n-1)) else some (lo,hi)
def ji (lo hi:Option Int)(n:Int)(side:Bool):Rs:=if side=true then gc lo hi n else gX lo hi n
def oR (lo hi:Option Int)(n:Int)(side:Bool):Rs:=if side=true then nv lo hi n else iy lo hi n
def dM (w:Str)(lo hi:Option Int)(n:Int)(side:Bool):Rs:=if w = "less" then ji lo hi n side else oR lo hi n side
def DX (rt rf:Rs):Str:=match rf with
 | none => "yes"
 | some _=>match rt with
  | none => "no"
  | some _ => "open"
theorem AR {w:Str}{lo hi:Option Int}{n:Int}(le:u0 lo hi)(h1:dM w lo hi n true=none)(h2:dM w lo hi n false=none):False:=by
 unfold dM at h1 h2
 by_cases hw:w = "less"
 ·rw [if_pos hw] at h1 h2
  simp only [ji,if_true,Hk,if_false] at h1 h2
  unfold gc jE at h1
  unfold gX ix at h2
  cases lo <;> cases hi <;> simp only [reduceCtorEq] at h1 h2
  rename_i l h
  simp only [u0] at le
  by_cases c1:n-1<h
  ·simp only [c1,if_true] at h1
   by_cases c2:n-1<l
   ·by_cases c3:n > l
    ·simp only [c3,if_true] at h2
     split at h2
     ·omega
     ·cases h2
    ·simp only [c3,if_false] at h2
     split at h2
     ·omega
     ·cases h2
   ·rw [if_neg c2] at h1;cases h1
  ·simp only [c1,if_false] at h1
   split at h1
   ·omega
   ·cases h1
 ·rw [if_neg hw] at h1 h2
  simp only [oR,if_true,Hk,if_false] at h1 h2
  unfold iy at h2
  by_cases c1:lo=some n
  ·rw [if_pos c1] at h2
   by_cases c2:hi=some n
   ·subst c1;subst c2
    simp [nv,kL] at h1
   ·rw [if_neg c2] at h2;cases h2
  ·rw [if_neg c1] at h2
   split at h2 <;> cases h2
def RV (H:Hp)(v:V)(r:Rs):Prop:=match r with
 | none=>v=.bL
 | some (a,b)=>∃p,v=.ref p/\H p=some (.tup [vO a,vO b])
theorem RV.same {H H':Hp}{v:V}{r:Rs}(h:RV H v r)(s:ar H H'):RV H' v r:=by
 cases r with
 | none=>exact h
 | some ab =>
  obtain⟨p,e,h⟩:=h
  exact⟨p,e,s _ _ h⟩
theorem RV.put {H:Hp}{v:V}{r:Rs}{l:Addr}{xs:List V}{o:HO}(h:RV H v r)(hl:H l=some (.lst xs)):RV (upd H l o) v r:=by
 cases r with
 | none=>exact h
 | some ab =>
  obtain⟨p,e,h⟩:=h
  exact⟨p,e,by rw [ai (bB h hl (by intro z;cases z))];exact h⟩
def dO:Option Int->PyData
 | none=>.none
 | some i=>.int i
theorem DY {H:Hp}(o:Option Int):aX H (vO o) (dO o):=by
 cases o with
 | none=>exact .bL
 | some i=>exact .int i
def yc:Sp:=fun vs H Q _=>∃(p:Addr) (w:Str) (n:Int) (lo hi:Option Int),vs=[.ref p,.str w,.int n]/\H p=some (.tup [vO lo,vO hi])/\∀H',ar H H'->Q (.str (DX (dM w lo hi n true) (dM w lo hi n false))) H'
theorem ar.put {H H':Hp}{l:Addr}{o:HO}(s:ar H H')(n:H l=none):ar H (upd H' l o):=fun c u e=>by rw [ai (aw e n)];exact s c u e
theorem zx:decide (V.str "less" = V.str "less")=true:=by decide +kernel
theorem yd:¬(("is" : Str) = "less"):=by decide +kernel
theorem qy {lo:Option Int}{n:Int}:decide (vO lo=V.int n)=decide (lo=some n):=by
 cases lo with
 | none=>rfl
 | some i =>
  by_cases h:i=n
  ·subst h;simp [vO]
  ·have h1:¬(V.int i=V.int n):=fun z=>h (V.int.inj z)
   have h2:¬((some i:Option Int)=some n):=fun z=>h (GL.inj z)
   rw [show vO (some i)=V.int i from rfl,decide_eq_false h1,decide_eq_false h2]
theorem ny {lo:Option Int}{n:Int}:AA (vO lo) (V.int n)=true:=by cases lo <;> rfl
structure eE (P:Program) (w:World) (K:Gh) (mg:Str->Option Value) (base:Heap) (C:Addr) (m:Str) (k:Nat) (ps:List Str) (sp:Sp):Prop where
 cl:lG K C
 ex:∃f fd,bh P w K mg base bQ k f fd ps sp/\Meth K C m f/\Binds K fd ps []
structure rO (P:Program) (w:World) (K:Gh) (mg:Str->Option Value) (base:Heap) (C:Addr) (x:Str) (k:Nat) (ps:List Str) (sp:Sp):Prop where
 ex:∃f fd,bh P w K mg base bQ k f fd ps sp/\Mk K C f/\mg x=some (.ref C)/\Binds K fd ps []
section
variable {X:Cx}{C:Addr}{m x:Str}{k:Nat}{ps:List Str}{sp:Sp}{oe e:Expr}{es:List Expr}{ta:TE}{t:TA}{p pos apos:Pos}
theorem gg {pl:Sem Bool}(o:eE X.prog X.w X.K X.mg X.base C m k ps sp)(he:PE X oe ta)(hr:cY k X.A)(ha:PA X (e::es) t)
  (hst:starEach (e::es) X.env=(false,eval e X.env)::starEach es X.env:=by rfl) (hpl:(backTo pos (starEach es X.env)).any (·.1)=false:=by rfl)
  (ht:eval (.Call (.Attribute oe m apos) (e::es) [] pos) X.env=(do
   let ov <-eval oe X.env
   standAt apos.atName
   let (f,first) <-holding [ov] (getMethod ov m pl)
   callWith pos f first (backTo pos (starEach (e::es) X.env)) (backToKw pos (keywordEach [] X.env))):=by rfl) :
  PE X (.Call (.Attribute oe m apos) (e::es) [] pos) (uq C m sp [] E0 ta t):=by
 obtain⟨f,fd,F,hm,hb⟩:=o.ex
 exact Cz he o.cl hm F hr hb .nil ur ha hst hpl ht
theorem kq {pl:Sem Bool}(o:eE X.prog X.w X.K X.mg X.base C m k ps sp)(he:PE X oe ta)(hr:cY k X.A)
  (ht:eval (.Call (.Attribute oe m apos) [] [] pos) X.env=(do
   let ov <-eval oe X.env
   standAt apos.atName
   let (f,first) <-holding [ov] (getMethod ov m pl)
   callWith pos f first (backTo pos (starEach [] X.env)) (backToKw pos (keywordEach [] X.env))):=by rfl) :
  PE X (.Call (.Attribute oe m apos) [] [] pos) (uq C m sp [] E0 ta uJ):=by
 obtain⟨f,fd,F,hm,hb⟩:=o.ex
 exact AF he o.cl hm F hr hb .nil ur ht
theorem rP (o:rO X.prog X.w X.K X.mg X.base C x k ps sp)(hr:cY (k+1) X.A)(hg:Gl X x)(ha:PA X (e::es) t)
  (hdb:(x == ("__debug__" : Str))=false:=by decide) (he:starEach (e::es) X.env=(false,eval e X.env)::starEach es X.env:=by rfl)
  (hpl:(backTo pos (starEach es X.env)).any (·.1)=false:=by rfl):PE X (.Call (.Name x p) (e::es) [] pos) (B0 C sp [] E0 t):=by
 obtain⟨f,fd,F,M,hm,hb⟩:=o.ex
 exact CA M F hr hg hm hb .nil ur ha hdb he hpl
theorem u7:eZ X (.type "dict") (fun vs H Q=>∃a kvs,vs=[.ref a]/\H a=some (.dK kvs)/\∀q,H q=none->Q (.ref q) (upd H q (.dK kvs))):=by
 intro pins s Gd H vs us Q I r h
 obtain⟨a,kvs,rfl,hd,q⟩:=h
 obtain⟨u,rfl,ru⟩:=vals1 r
 cases ru
 exact AQ I (.inl hd) fun q' s' hn I'=>⟨.ref q',_,I',rfl,q q' hn⟩
end
theorem oh:bootBuiltins "dict" = some (.type "dict"):=by decide +kernel
theorem lj {k:Str}{v:V}{l:List (Str×V)}:((k,v)::l).lookup k=some v:=by simp [Hd]
theorem aS {k k':Str}{v:V}{l:List (Str×V)}{o:Option V}(h:¬k=k')(e:l.lookup k=o):((k',v)::l).lookup k=o:=by
 rw [Hl,beq_false_of_ne h];exact e
theorem AS {k:Str}{v u:V}{l:List (Str×V)}:cF k v ((k,u)::l)=(k,v)::l:=by simp only [cF,if_true]
theorem cf {k k':Str}{v u:V}{l l':List (Str×V)}(h:¬k' = k)(e:cF k v l=l'):cF k v ((k',u)::l)=(k',u)::l':=by simp only [cF,if_neg h,e]
theorem ll {k:Str}{v:V}:cF k v []=[(k,v)]:=rfl
def fz (a0 a1 a2 a3 a4 a5 a6 a7:V):List (Str×V):=[("pieces",a0),("passed",a1),("place",a2),("worths",a3),("numbers",a4),("taken",a5),("spoken",a6),("over",a7)]
section
variable {a0 a1 a2 a3 a4 a5 a6 a7 z:V}
theorem tq:(fz a0 a1 a2 a3 a4 a5 a6 a7).lookup ("pieces" : Str)=some a0:=lj
theorem nz:(fz a0 a1 a2 a3 a4 a5 a6 a7).lookup ("passed" : Str)=some a1:=(aS (by decide +kernel) lj)
theorem fS:(fz a0 a1 a2 a3 a4 a5 a6 a7).lookup ("place" : Str)=some a2:=(aS (by decide +kernel) (aS (by decide +kernel) lj))
theorem ju:(fz a0 a1 a2 a3 a4 a5 a6 a7).lookup ("worths" : Str)=some a3:=(aS (by decide +kernel) (aS (by decide +kernel) (aS (by decide +kernel) lj)))
theorem qA:(fz a0 a1 a2 a3 a4 a5 a6 a7).lookup ("numbers" : Str)=some a4:=(aS (by decide +kernel) (aS (by decide +kernel) (aS (by decide +kernel) (aS (by decide +kernel) lj))))
theorem pB:(fz a0 a1 a2 a3 a4 a5 a6 a7).lookup ("taken" : Str)=some a5:=(aS (by decide +kernel) (aS (by decide +kernel) (aS (by decide +kernel) (aS (by decide +kernel) (aS (by decide +kernel) lj)))))
theorem nB:(fz a0 a1 a2 a3 a4 a5 a6 a7).lookup ("spoken" : Str)=some a6:=(aS (by decide +kernel) (aS (by decide +kernel) (aS (by decide +kernel) (aS (by decide +kernel) (aS (by decide +kernel) (aS (by decide +kernel) lj))))))
theorem xf:(fz a0 a1 a2 a3 a4 a5 a6 a7).lookup ("over" : Str)=some a7:=(aS (by decide +kernel) (aS (by decide +kernel) (aS (by decide +kernel) (aS (by decide +kernel) (aS (by decide +kernel) (aS (by decide +kernel) (aS (by decide +kernel) lj)))))))
theorem mn:(fz a0 a1 a2 a3 a4 a5 a6 a7).lookup ("worth" : Str)=none:=(aS (by decide +kernel) (aS (by decide +kernel) (aS (by decide +kernel) (aS (by decide +kernel) (aS (by decide +kernel) (aS (by decide +kernel) (aS (by decide +kernel) (aS (by decide +kernel) rfl))))))))
theorem zy:(fz a0 a1 a2 a3 a4 a5 a6 a7).lookup ("coming" : Str)=none:=(aS (by decide +kernel) (aS (by decide +kernel) (aS (by decide +kernel) (aS (by decide +kernel) (aS (by decide +kernel) (aS (by decide +kernel) (aS (by decide +kernel) (aS (by decide +kernel) rfl))))))))
theorem qB:(fz a0 a1 a2 a3 a4 a5 a6 a7).lookup ("lacks_number" : Str)=none:=(aS (by decide +kernel) (aS (by decide +kernel) (aS (by decide +kernel) (aS (by decide +kernel) (aS (by decide +kernel) (aS (by decide +kernel) (aS (by decide +kernel) (aS (by decide +kernel) rfl))))))))
theorem ye:(fz a0 a1 a2 a3 a4 a5 a6 a7).lookup ("is_held" : Str)=none:=(aS (by decide +kernel) (aS (by decide +kernel) (aS (by decide +kernel) (aS (by decide +kernel) (aS (by decide +kernel) (aS (by decide +kernel) (aS (by decide +kernel) (aS (by decide +kernel) rfl))))))))
theorem rQ:(fz a0 a1 a2 a3 a4 a5 a6 a7).lookup ("take_number" : Str)=none:=(aS (by decide +kernel) (aS (by decide +kernel) (aS (by decide +kernel) (aS (by decide +kernel) (aS (by decide +kernel) (aS (by decide +kernel) (aS (by decide +kernel) (aS (by decide +kernel) rfl))))))))
theorem yf:(fz a0 a1 a2 a3 a4 a5 a6 a7).lookup ("do_deed" : Str)=none:=(aS (by decide +kernel) (aS (by decide +kernel) (aS (by decide +kernel) (aS (by decide +kernel) (aS (by decide +kernel) (aS (by decide +kernel) (aS (by decide +kernel) (aS (by decide +kernel) rfl))))))))
theorem qC:(fz a0 a1 a2 a3 a4 a5 a6 a7).lookup ("come_to" : Str)=none:=(aS (by decide +kernel) (aS (by decide +kernel) (aS (by decide +kernel) (aS (by decide +kernel) (aS (by decide +kernel) (aS (by decide +kernel) (aS (by decide +kernel) (aS (by decide +kernel) rfl))))))))
theorem zA:(fz a0 a1 a2 a3 a4 a5 a6 a7).lookup ("do_end" : Str)=none:=(aS (by decide +kernel) (aS (by decide +kernel) (aS (by decide +kernel) (aS (by decide +kernel) (aS (by decide +kernel) (aS (by decide +kernel) (aS (by decide +kernel) (aS (by decide +kernel) rfl))))))))
theorem yg:(fz a0 a1 a2 a3 a4 a5 a6 a7).lookup ("do_step" : Str)=none:=(aS (by decide +kernel) (aS (by decide +kernel) (aS (by decide +kernel) (aS (by decide +kernel) (aS (by decide +kernel) (aS (by decide +kernel) (aS (by decide +kernel) (aS (by decide +kernel) rfl))))))))
theorem i5:cF "place" z (fz a0 a1 a2 a3 a4 a5 a6 a7)=fz a0 a1 z a3 a4 a5 a6 a7:=(cf (by decide +kernel) (cf (by decide +kernel) AS))
theorem AU:cF "taken" z (fz a0 a1 a2 a3 a4 a5 a6 a7)=fz a0 a1 a2 a3 a4 z a6 a7:=(cf (by decide +kernel) (cf (by decide +kernel) (cf (by decide +kernel) (cf (by decide +kernel) (cf (by decide +kernel) AS)))))
theorem CP:cF "over" z (fz a0 a1 a2 a3 a4 a5 a6 a7)=fz a0 a1 a2 a3 a4 a5 a6 z:=(cf (by decide +kernel) (cf (by decide +kernel) (cf (by decide +kernel) (cf (by decide +kernel) (cf (by decide +kernel) (cf (by decide +kernel) (cf (by decide +kernel) AS)))))))
theorem zB:cF "pieces" a0 ([]:List (Str×V))=([("pieces",a0)]:List (Str×V)):=ll
theorem zC:cF "passed" a1 ([("pieces",a0)]:List (Str×V))=([("pieces",a0),("passed",a1)]:List (Str×V)):=(cf (by decide +kernel) ll)
theorem AV:cF "place" a2 ([("pieces",a0),("passed",a1)]:List (Str×V))=([("pieces",a0),("passed",a1),("place",a2)]:List (Str×V)):=(cf (by decide +kernel) (cf (by decide +kernel) ll))
theorem zD:cF "worths" a3 ([("pieces",a0),("passed",a1),("place",a2)]:List (Str×V))=([("pieces",a0),("passed",a1),("place",a2),("worths",a3)]:List (Str×V)):=(cf (by decide +kernel) (cf (by decide +kernel) (cf (by decide +kernel) ll)))
theorem yh:cF "numbers" a4 ([("pieces",a0),("passed",a1),("place",a2),("worths",a3)]:List (Str×V))=([("pieces",a0),("passed",a1),("place",a2),("worths",a3),("numbers",a4)]:List (Str×V)):=(cf (by decide +kernel) (cf (by decide +kernel) (cf (by decide +kernel) (cf (by decide +kernel) ll))))
theorem AW:cF "taken" a5 ([("pieces",a0),("passed",a1),("place",a2),("worths",a3),("numbers",a4)]:List (Str×V))=([("pieces",a0),("passed",a1),("place",a2),("worths",a3),("numbers",a4),("taken",a5)]:List (Str×V)):=(cf (by decide +kernel) (cf (by decide +kernel) (cf (by decide +kernel) (cf (by decide +kernel) (cf (by decide +kernel) ll)))))
theorem zE:cF "spoken" a6 ([("pieces",a0),("passed",a1),("place",a2),("worths",a3),("numbers",a4),("taken",a5)]:List (Str×V))=([("pieces",a0),("passed",a1),("place",a2),("worths",a3),("numbers",a4),("taken",a5),("spoken",a6)]:List (Str×V)):=(cf (by decide +kernel) (cf (by decide +kernel) (cf (by decide +kernel) (cf (by decide +kernel) (cf (by decide +kernel) (cf (by decide +kernel) ll))))))
theorem CQ:cF "over" a7 ([("pieces",a0),("passed",a1),("place",a2),("worths",a3),("numbers",a4),("taken",a5),("spoken",a6)]:List (Str×V))=([("pieces",a0),("passed",a1),("place",a2),("worths",a3),("numbers",a4),("taken",a5),("spoken",a6),("over",a7)]:List (Str×V)):=(cf (by decide +kernel) (cf (by decide +kernel) (cf (by decide +kernel) (cf (by decide +kernel) (cf (by decide +kernel) (cf (by decide +kernel) (cf (by decide +kernel) ll)))))))
end
structure lN (K:Gh) (C:Addr):Prop where
 cl:lG K C
 pieces:dQ K C "pieces"
 aH:dQ K C "passed"
 place:dQ K C "place"
 gM:dQ K C "worths"
 rR:dQ K C "numbers"
 taken:dQ K C "taken"
 eY:dQ K C "spoken"
 over:dQ K C "over"
structure bE (C:Addr) (H:Hp) (p pl d nl sl:Addr) (plv:V) (nums:List Int) (S:RS) (m:Nat):Prop where
 ob:∃dx,H p=some (.ins C dx (fz plv (.ref pl) (.int S.place) (.ref d) (.ref nl) (.int S.taken) (.ref sl) (.bl (decide (S.word = "stop")))))
 aH:H pl=some (.lst (S.bX.map fun k=>V.int (k:Nat)))
 last:∃xs,S.bX=xs++[S.aP]
 dict:∃kvs,H d=some (.dK kvs)/\DW kvs S.w/\kvs.length<=m
 nums:H nl=some (.lst (nums.map V.int))
 eY:H sl=some (.lst (S.told.map V.int))
 ne:pl≠nl/\pl≠sl/\nl≠sl
 bK:S.told.length<=m/\S.bX.length<=m+1
def cu (p pl d sl:Addr)(H H':Hp):Prop:=∀c o,H c=some o->c≠p->c≠pl->c≠d->c≠sl->H' c=some o
theorem cu.refl (p pl d sl:Addr)(H:Hp):cu p pl d sl H H:=fun _ _ h _ _ _ _=>h
theorem cu.trans {p pl d sl:Addr}{H H1 H2:Hp}(a:cu p pl d sl H H1)(b:cu p pl d sl H1 H2):cu p pl d sl H H2:=fun c o h n1 n2 n3 n4=>b c o (a c o h n1 n2 n3 n4) n1 n2 n3 n4
theorem cu.kM {p pl d sl:Addr}{H:Hp}{o:HO}:cu p pl d sl H (upd H p o):=fun c u h n _ _ _=>by rw [ai n];exact h
theorem cu.DZ {p pl d sl:Addr}{H:Hp}{o:HO}:cu p pl d sl H (upd H pl o):=fun c u h _ n _ _=>by rw [ai n];exact h
theorem cu.jN {p pl d sl:Addr}{H:Hp}{o:HO}:cu p pl d sl H (upd H d o):=fun c u h _ _ n _=>by rw [ai n];exact h
theorem cu.D1 {p pl d sl:Addr}{H:Hp}{o:HO}:cu p pl d sl H (upd H sl o):=fun c u h _ _ _ n=>by rw [ai n];exact h
theorem cu.of_same {p pl d sl:Addr}{H H':Hp}(h:ar H H'):cu p pl d sl H H':=fun c o e _ _ _ _=>h c o e
section
variable {C:Addr}{H H':Hp}{p pl d nl sl:Addr}{plv:V}{nums:List Int}{S:RS}{m:Nat}
theorem bE.tu (A:bE C H p pl d nl sl plv nums S m):p≠pl/\p≠d/\p≠nl/\p≠sl/\d≠pl/\d≠nl/\d≠sl:=by
 obtain⟨dx,h1⟩:=A.ob
 obtain⟨kvs,h2,_⟩:=A.dict
 refine⟨bB h1 A.aH ?_,bB h1 h2 ?_,bB h1 A.nums ?_,bB h1 A.eY ?_,bB h2 A.aH ?_,bB h2 A.nums ?_,bB h2 A.eY ?_⟩ <;> (intro z;cases z)
theorem bE.tup {c:Addr}{xs:List V}(A:bE C H p pl d nl sl plv nums S m)(b:cu p pl d sl H H')(h:H c=some (.tup xs)):H' c=some (.tup xs):=by
 obtain⟨dx,h1⟩:=A.ob
 obtain⟨kvs,h2,_⟩:=A.dict
 refine b c _ h (bB h h1 ?_) (bB h A.aH ?_) (bB h h2 ?_) (bB h A.eY ?_) <;> (intro z;cases z)
theorem bE.rd {x:V}{dd:PyData}(A:bE C H p pl d nl sl plv nums S m)(b:cu p pl d sl H H')(r:aX H x dd)(n:cC dd=true):aX H' x dd :=
 r.bp (fun c xs e=>A.tup b e) n
theorem bE.same (A:bE C H p pl d nl sl plv nums S m)(s:ar H H'):bE C H' p pl d nl sl plv nums S m:=by
 obtain⟨⟨dx,h1⟩,h2,h3,⟨kvs,h4,h5⟩,h6,h7,h8,h9⟩:=A
 exact⟨⟨dx,s _ _ h1⟩,s _ _ h2,h3,⟨kvs,s _ _ h4,h5⟩,s _ _ h6,s _ _ h7,h8,h9⟩
theorem bE.obj {dx:Addr}{S':RS}{fs:List (Str×V)}(A:bE C H p pl d nl sl plv nums S m)
  (e:fs=fz plv (.ref pl) (.int S'.place) (.ref d) (.ref nl) (.int S'.taken) (.ref sl) (.bl (decide (S'.word = "stop"))))
  (e1:S'.bX=S.bX) (e2:S'.aP=S.aP) (e3:S'.w=S.w) (e4:S'.told=S.told):bE C (upd H p (.ins C dx fs)) p pl d nl sl plv nums S' m:=by
 obtain⟨n1,n2,n3,n4,_⟩:=A.tu
 obtain⟨kvs,h4,h5⟩:=A.dict
 subst e
 refine⟨⟨dx,ae⟩,by rw [ai n1.symm,e1];exact A.aH,by rw [e1,e2];exact A.last,⟨kvs,by rw [ai n2.symm];exact h4,by rw [e3];exact h5⟩,by rw [ai n3.symm];exact A.nums,by rw [ai n4.symm,e4];exact A.eY,A.ne,by rw [e1,e4];exact A.bK⟩
theorem bE.gM {kvs:List (Key×V)}{x:Str}{n:Int}(A:bE C H p pl d nl sl plv nums S m)(h:H d=some (.dK kvs))(dw:DW kvs S.w)(hl:kvs.length<=m) :
  bE C (upd H d (.dK (putK kvs (Sum.inr x) (.int n)))) p pl d nl sl plv nums { S with w:=iw S.w x n } (m+1):=by
 obtain⟨n1,n2,n3,n4,n5,n6,n7⟩:=A.tu
 obtain⟨dx,h1⟩:=A.ob
 refine⟨⟨dx,by rw [ai n2];exact h1⟩,by rw [ai n5.symm];exact A.aH,A.last,⟨_,ae,dw.put x n,?_⟩,by rw [ai n6.symm];exact A.nums,by rw [ai n7.symm];exact A.eY,A.ne,⟨GP A.bK.1,GP A.bK.2⟩⟩
 have:=dJ kvs (Sum.inr x:Key) (V.int n)
 omega
theorem bE.EL {n:Int}(A:bE C H p pl d nl sl plv nums S m):bE C (upd H sl (.lst (S.told.map V.int++[.int n]))) p pl d nl sl plv nums { S with told:=S.told++[n] } (m+1):=by
 obtain⟨n1,n2,n3,n4,n5,n6,n7⟩:=A.tu
 obtain⟨dx,h1⟩:=A.ob
 obtain⟨kvs,h4,h5,h6⟩:=A.dict
 refine⟨⟨dx,by rw [ai n4];exact h1⟩,by rw [ai A.ne.2.1];exact A.aH,A.last,⟨kvs,by rw [ai n7];exact h4,h5,GP h6⟩,by rw [ai A.ne.2.2];exact A.nums,by rw [ae,Gz];rfl,A.ne,?_,GP A.bK.2⟩
 have:=A.bK.1
 show (S.told++[n]).length<=m+1
 rw [Gr]
 exact Ht this
theorem bE.FG {q:Nat}(A:bE C H p pl d nl sl plv nums S m):bE C (upd H pl (.lst ((S.bX.map fun k=>V.int (k:Nat))++[.int q]))) p pl d nl sl plv nums { S with aP:=q,bX:=S.bX++[q] } (m+1):=by
 obtain⟨n1,n2,n3,n4,n5,n6,n7⟩:=A.tu
 obtain⟨dx,h1⟩:=A.ob
 obtain⟨kvs,h4,h5,h6⟩:=A.dict
 refine⟨⟨dx,by rw [ai n1];exact h1⟩,by rw [ae,Gz];rfl,⟨S.bX,rfl⟩,⟨kvs,by rw [ai n5];exact h4,h5,GP h6⟩,by rw [ai A.ne.1.symm];exact A.nums,by rw [ai A.ne.2.1.symm];exact A.eY,A.ne,GP A.bK.1,?_⟩
 have:=A.bK.2
 show (S.bX++[q]).length<=m+1+1
 rw [Gr]
 exact Ht this
theorem bE.mono {m':Nat}(A:bE C H p pl d nl sl plv nums S m)(h:m<=m'):bE C H p pl d nl sl plv nums S m':=by
 obtain⟨h1,h2,h3,⟨kvs,h4,h5,h6⟩,h7,h8,h9,h10⟩:=A
 exact⟨h1,h2,h3,⟨kvs,h4,h5,Gy h6 h⟩,h7,h8,h9,Gy h10.1 h,Gy h10.2 (Ht h)⟩
theorem bE.xg (A:bE C H p pl d nl sl plv nums S m):fw (S.bX.map fun k=>V.int (k:Nat)) (-1)=some (.int S.aP):=by
 obtain⟨xs,e⟩:=A.last
 rw [e]
 simp only [Gz,GS,HG]
 unfold fw oN
 simp
 rw [if_pos (by omega)]
 have e1:(-1+((xs.length:Int)+1)).toNat=xs.length:=by omega
 rw [e1]
 simp
end
def oi (C:Addr):Sp:=fun vs H Q _=>∃(p pl d nl sl:Addr) (plv:V) (nums:List Int) (S:RS) (m:Nat) (x:Str),vs=[.ref p,.str x]/\bE C H p pl d nl sl plv nums S m/\Q (.int (S.w x)) H
inductive Nx (H:Hp) (ds:List cH) (e:End) (i:Nat) (v:V):Prop
 | D2 (dd:cH) (q:Addr) (h:ds[i]?=some dd) (hv:v=.ref q) (hq:H q=some (.tup (jg dd)))
 | end_ (q:Addr) (h:ds[i]?=none) (hv:v=.ref q) (hq:H q=some (.tup (fg e)))
def pC (C:Addr):Sp:=fun vs H Q _=>∃(p pl d nl sl:Addr) (plv:V) (nums:List Int) (S:RS) (m:Nat) (ps:List Piece) (ds:List cH) (e:End),vs=[.ref p]/\bE C H p pl d nl sl plv nums S m/\aX H plv (cN ps)/\ps[S.aP]?=some (ds,e) /\
 ∀v,Nx H ds e S.place v->Q v H
def lO:cH->Bool
 | .read _=>true
 | _=>false
def gY (ps:List Piece)(nums:List Int)(S:RS):Bool:=match ps[S.aP]? with
 | none=>false
 | some (ds,_)=>match ds[S.place]? with
  | some dd=>lO dd&&decide (S.taken=nums.length)
  | none=>false
def rS (C:Addr):Sp:=fun vs H Q _=>∃(p pl d nl sl:Addr) (plv:V) (nums:List Int) (S:RS) (m:Nat) (ps:List Piece),vs=[.ref p]/\bE C H p pl d nl sl plv nums S m/\aX H plv (cN ps)/\S.aP<ps.length/\Q (.bl (gY ps nums S)) H
def rT (C:Addr):Sp:=fun vs H Q _=>∃(p pl d nl sl:Addr) (plv:V) (nums:List Int) (S:RS) (m:Nat) (n:Int),vs=[.ref p]/\bE C H p pl d nl sl plv nums S m/\nums[S.taken]?=some n /\
 ∀H',bE C H' p pl d nl sl plv nums { S with taken:=S.taken+1 } m->cu p pl d sl H H'->Q (.int n) H'
def pD (C:Addr):Sp:=fun vs H Q _=>∃(p pl d nl sl q:Addr) (plv:V) (nums:List Int) (S:RS) (m:Nat) (dd:cH),vs=[.ref p,.ref q]/\bE C H p pl d nl sl plv nums S m/\H q=some (.tup (jg dd))/\(lO dd=true->S.taken<nums.length)/\m<=10000 /\
 ∀H',bE C H' p pl d nl sl plv nums (fG nums S dd) (m+1)->cu p pl d sl H H'->Q .bL H'
def u9 (C:Addr):Sp:=fun vs H Q _=>∃(p pl d nl sl:Addr) (plv:V) (nums:List Int) (S:RS) (m n:Nat),vs=[.ref p,.int n]/\bE C H p pl d nl sl plv nums S m/\m<=10000 /\
 ∀H',bE C H' p pl d nl sl plv nums { S with aP:=n,place:=0,bX:=S.bX++[n] } (m+1)->cu p pl d sl H H'->Q .bL H'
def rV (C:Addr):Sp:=fun vs H Q _=>∃(p pl d nl sl q:Addr) (plv:V) (nums:List Int) (S:RS) (m:Nat) (e:End),vs=[.ref p,.ref q]/\bE C H p pl d nl sl plv nums S m/\H q=some (.tup (fg e))/\m<=10000 /\
 ∀H',bE C H' p pl d nl sl plv nums (jh S e) (m+1)->cu p pl d sl H H'->Q .bL H'
def pE (C:Addr):Sp:=fun vs H Q _=>∃(p pl d nl sl:Addr) (plv:V) (nums:List Int) (S:RS) (m:Nat) (ps:List Piece),vs=[.ref p]/\bE C H p pl d nl sl plv nums S m/\aX H plv (cN ps)/\S.aP<ps.length/\S.taken<=nums.length/\gY ps nums S=false/\m<=10000 /\
 ∀H',bE C H' p pl d nl sl plv nums (cB ps nums S) (m+1)->cu p pl d sl H H'->Q .bL H'
def fK (ps:List Piece)(nums:List Int)(S:RS):RS:=if S.word = "on" then cB ps nums S else S
def aM (ps:List Piece)(nums:List Int):Nat->RS->RS
 | 0,S=>S
 | n+1,S=>fK ps nums (aM ps nums n S)
theorem rW {ps:List Piece} {nums:List Int} {n:Nat} {S:RS} (h:(aM ps nums n S).word = "on"):aM ps nums (n+1) S=cB ps nums (aM ps nums n S):=by
 show fK ps nums _=_
 unfold fK
 rw [if_pos h]
theorem i6 {ps:List Piece} {nums:List Int} {n:Nat} {S:RS} (h:¬(aM ps nums n S).word = "on"):∀k,aM ps nums (n+k) S=aM ps nums n S
 | 0=>rfl
 | k+1=>by
  show fK ps nums (aM ps nums (n+k) S)=_
  rw [i6 h k]
  unfold fK
  rw [if_neg h]
theorem xh {ps:List Piece}{nums:List Int}{S:RS}(hp:bO ps)(h:S.aP<ps.length)(ht:S.taken<=nums.length):∀n,(aM ps nums n S).aP<ps.length/\(aM ps nums n S).taken<=nums.length
 | 0=>⟨h,ht⟩
 | n+1=>by
  have ih:=xh hp h ht n
  show (fK ps nums (aM ps nums n S)).aP<_/\(fK ps nums (aM ps nums n S)).taken<=_
  unfold fK
  split
  ·exact uZ hp ih.1 ih.2
  ·exact ih
theorem AX {ps:List Piece}{nums:List Int}{S:RS}(h:gY ps nums S=true):cB ps nums S={ S with word := "dry" }:=by
 unfold gY at h
 unfold cB
 cases hx:ps[S.aP]? with
 | none=>rw [hx] at h;cases h
 | some pc =>
  obtain⟨ds,e⟩:=pc
  rw [hx] at h
  dsimp only at h ⊢
  cases hd:ds[S.place]? with
  | none=>rw [hd] at h;cases h
  | some dd =>
   rw [hd] at h
   dsimp only at h ⊢
   cases dd with
   | read x =>
    have ht:S.taken=nums.length:=of_decide_eq_true (by simpa [lO] using h)
    have hn:nums[S.taken]?=none:=by rw [ht];simp
    show fG nums S (.read x)=_
    unfold fG
    rw [hn]
   | _=>cases h
theorem AY {ps:List Piece} {nums:List Int} {S:RS} (h:gY ps nums S=false) (hw:S.word = "on") (ht:S.taken<=nums.length):(cB ps nums S).word = "on" \/ (cB ps nums S).word = "stop" := by
 unfold gY at h
 unfold cB
 cases hx:ps[S.aP]? with
 | none=>exact .inl hw
 | some pc =>
  obtain⟨ds,e⟩:=pc
  rw [hx] at h
  dsimp only at h ⊢
  cases hd:ds[S.place]? with
  | none =>
   dsimp only
   cases e with
   | stop=>exact .inr rfl
   | go q=>exact .inl hw
   | cE b x n q r=>exact .inl hw
  | some dd =>
   rw [hd] at h
   dsimp only at h ⊢
   cases dd with
   | read x =>
    have hlt:S.taken<nums.length:=by
     have:¬S.taken=nums.length:=of_decide_eq_false (by simpa [lO] using h)
     omega
    have hn:nums[S.taken]?=some nums[S.taken]:=by simp [hlt]
    show (fG nums S (.read x)).word=_\/_
    unfold fG
    rw [hn]
    exact .inl hw
   | put x n=>exact .inl hw
   | copy x y=>exact .inl hw
   | add x n=>exact .inl hw
   | tell x=>exact .inl hw
def bD (pc:Nat)(w:Str->Int):RS:=⟨pc,0,w,0,[], "on",[pc]⟩
def fc (ps:List Piece)(nums:List Int)(S:RS):Bool:=decide (S.word = "stop")||gY ps nums S
def dX (ps:List Piece)(nums:List Int):Nat->RS->RS
 | 0,S=>S
 | n+1,S=>if fc ps nums (dX ps nums n S)=true then dX ps nums n S else cB ps nums (dX ps nums n S)
def i7 (ps:List Piece)(nums:List Int):Nat->RS->Nat
 | 0,_=>0
 | n+1,S=>if fc ps nums (dX ps nums n S)=true then i7 ps nums n S else i7 ps nums n S+1
theorem zF {ps:List Piece}{nums:List Int}{n:Nat}{S:RS}(h:fc ps nums (dX ps nums n S)=false):dX ps nums (n+1) S=cB ps nums (dX ps nums n S)/\i7 ps nums (n+1) S=i7 ps nums n S+1:=by
 have h':¬fc ps nums (dX ps nums n S)=true:=by rw [h];decide
 exact⟨if_neg h',if_neg h'⟩
theorem lP {ps:List Piece}{nums:List Int}{n:Nat}{S:RS}(h:fc ps nums (dX ps nums n S)=true):∀k,dX ps nums (n+k) S=dX ps nums n S/\i7 ps nums (n+k) S=i7 ps nums n S
 | 0=>⟨rfl,rfl⟩
 | k+1=>by
  have ih:=lP h k
  have h':fc ps nums (dX ps nums (n+k) S)=true:=by rw [ih.1];exact h
  exact⟨(if_pos h').trans ih.1,(if_pos h').trans ih.2⟩
theorem yi {ps:List Piece}{nums:List Int}{S:RS}(hp:bO ps)(h:S.aP<ps.length)(ht:S.taken<=nums.length):∀n,(dX ps nums n S).aP<ps.length/\(dX ps nums n S).taken<=nums.length
 | 0=>⟨h,ht⟩
 | n+1=>by
  have ih:=yi hp h ht n
  unfold dX
  split
  ·exact ih
  ·exact uZ hp ih.1 ih.2
theorem xi {ps:List Piece} {nums:List Int} {S:RS} (hin:bO ps) (hpc:S.aP<ps.length) (ht:S.taken<=nums.length) (hw:S.word = "on"):∀n,
  ((aM ps nums n S).word = "on" /\ dX ps nums n S=aM ps nums n S/\i7 ps nums n S=n)\/((aM ps nums n S).word = "stop" /\ dX ps nums n S=aM ps nums n S) \/
  (aM ps nums n S={ dX ps nums n S with word := "dry" }/\(dX ps nums n S).word = "on" /\ gY ps nums (dX ps nums n S)=true/\i7 ps nums n S<n)
 | 0=>.inl ⟨hw,rfl,rfl⟩
 | n+1=>by
  have gi:=yi (ps:=ps) (nums:=nums) (S:=S) hin hpc ht n
  rcases xi hin hpc ht hw n with ⟨h1,h2,h3⟩ | ⟨h1,h2⟩ | ⟨h1,h2,h3,h4⟩
  ·have e1:=rW h1
   have ns:decide ((dX ps nums n S).word = "stop")=false:=by rw [h2,h1];decide +kernel
   cases hl:gY ps nums (dX ps nums n S) with
   | true =>
    have hh:fc ps nums (dX ps nums n S)=true:=by unfold fc;rw [ns,hl];rfl
    have e2:=lP hh 1
    refine .inr (.inr ⟨?_,?_,?_,?_⟩)
    ·rw [e1,e2.1,<-h2]
     exact AX hl
    ·rw [e2.1,h2];exact h1
    ·rw [e2.1];exact hl
    ·rw [e2.2,h3];omega
   | false =>
    have hh:fc ps nums (dX ps nums n S)=false:=by unfold fc;rw [ns,hl];rfl
    have e2:=zF hh
    have w2:=AY hl (by rw [h2];exact h1) gi.2
    have e3:dX ps nums (n+1) S=aM ps nums (n+1) S:=by rw [e2.1,e1,h2]
    rcases w2 with w2 | w2
    ·exact .inl ⟨by rw [<-e3,e2.1];exact w2,e3,by rw [e2.2,h3]⟩
    ·exact .inr (.inl ⟨by rw [<-e3,e2.1];exact w2,e3⟩)
  ·have hh:fc ps nums (dX ps nums n S)=true:=by unfold fc;rw [h2,h1];rfl
   have e2:=lP hh 1
   have e1:=i6 (n:=n) (ps:=ps) (nums:=nums) (S:=S) (by rw [h1];decide +kernel) 1
   exact .inr (.inl ⟨by rw [e1];exact h1,by rw [e2.1,e1];exact h2⟩)
  ·have hh:fc ps nums (dX ps nums n S)=true:=by unfold fc;rw [h3];simp
   have e2:=lP hh 1
   have e1:=i6 (n:=n) (ps:=ps) (nums:=nums) (S:=S) (by rw [h1];show ¬(("dry" : Str) = "on");decide +kernel) 1
   refine .inr (.inr ⟨?_,?_,?_,?_⟩)
   ·rw [e1,e2.1];exact h1
   ·rw [e2.1];exact h2
   ·rw [e2.1];exact h3
   ·rw [e2.2];omega
def va (C:Addr):Sp:=fun vs H Q _=>∃(p pl d nl sl:Addr) (plv:V) (nums:List Int) (S:RS) (m:Nat) (ps:List Piece),vs=[.ref p]/\bE C H p pl d nl sl plv nums S m/\aX H plv (cN ps)/\S.aP<ps.length/\Q (.bl (fc ps nums S)) H
def vb (C:Addr):Sp:=fun vs H Q _=>∃(p pl d nl sl:Addr) (plv:V) (nums:List Int) (S:RS) (m n:Nat) (ps:List Piece),vs=[.ref p,.int n]/\bE C H p pl d nl sl plv nums S m/\aX H plv (cN ps)/\bO ps/\S.aP<ps.length/\S.taken<=nums.length/\m+n<=10000 /\
 ∀H',bE C H' p pl d nl sl plv nums (dX ps nums n S) (m+i7 ps nums n S)->cu p pl d sl H H'->Q (.int (i7 ps nums n S:Nat)) H'
def rX (C:Addr):Sp:=fun vs H Q _=>∃(p dx d0 np:Addr) (plv:V) (pc:Nat) (kvs:List (Key×V)) (w:Str->Int) (nums:List Int),vs=[.ref p,plv,.int pc,.ref d0,.ref np]/\H p=some (.ins C dx [])/\H d0=some (.dK kvs)/\DW kvs w/\H np=some (.tup (nums.map V.int)) /\
 ∀(pl d nl sl:Addr) (H':Hp),bE C H' p pl d nl sl plv nums (bD pc w) kvs.length->(∀c o,H c=some o->c≠p->H' c=some o)->H pl=none->H d=none->H nl=none->H sl=none->Q .bL H'
def ik (S:RS):PyData:=.tuple [.str S.word,.tuple (S.told.map PyData.int)]
def rY:Sp:=fun vs H Q _=>∃(d0 np:Addr) (plv:V) (pc n:Nat) (kvs:List (Key×V)) (w:Str->Int) (nums:List Int) (ps:List Piece),vs=[plv,.int pc,.ref d0,.ref np,.int n]/\aX H plv (cN ps)/\bO ps/\pc<ps.length/\H d0=some (.dK kvs)/\DW kvs w/\H np=some (.tup (nums.map V.int))/\kvs.length<=1000/\n<=2000 /\
 ∀v H',aX H' v (ik (aM ps nums n (bD pc w)))->ar H H'->Q v H'
def yj:Sp:=fun vs H Q _=>∃(np:Addr) (plv:V) (n:Nat) (nums:List Int) (ps:List Piece),vs=[plv,.ref np,.int n]/\aX H plv (cN ps)/\bO ps/\0<ps.length/\H np=some (.tup (nums.map V.int))/\n<=2000 /\
 ∀v H',aX H' v (ik (aM ps nums n (bD 0 fun _=>0)))->ar H H'->Q v H'
theorem zG {b:Bool} {u n:Int}:DX (dM (wT b) (some u) (some u) n true) (dM (wT b) (some u) (some u) n false)=(if fD b u n=true then ("yes" : Str) else ("no" : Str)):=by
 cases b with
 | true =>
  have e1:∀s,dM (wT true) (some u) (some u) n s=ji (some u) (some u) n s:=fun s=>by
   unfold dM
   rw [if_pos (show wT true=("less" : Str) from rfl)]
  have e2:ji (some u) (some u) n true=gc (some u) (some u) n:=by
   unfold ji
   rw [if_pos rfl]
  have e3:ji (some u) (some u) n false=gX (some u) (some u) n:=by
   unfold ji
   rw [if_neg (by decide)]
  rw [e1,e1,e2,e3]
  by_cases h:u<n
  ·have hb:ix (some u) n=n:=by
    show (if n > u then n else u)=n
    exact if_pos h
   have f1:gX (some u) (some u) n=none:=by
    show (if u<ix (some u) n then (none:Rs) else some (some (ix (some u) n),some u))=none
    rw [hb,if_pos h]
   have f2:fD true u n=true:=by
    unfold fD
    rw [if_pos rfl]
    exact decide_eq_true h
   rw [f1,if_pos f2]
   rfl
  ·have hb:ix (some u) n=u:=by
    show (if n > u then n else u)=u
    exact if_neg h
   have ht:jE (some u) n=n-1:=by
    show (if n-1<u then n-1 else u)=n-1
    exact if_pos (by omega)
   have f1:gX (some u) (some u) n=some (some u,some u):=by
    show (if u<ix (some u) n then (none:Rs) else some (some (ix (some u) n),some u))=_
    rw [hb,if_neg (Int.lt_irrefl u)]
   have f3:gc (some u) (some u) n=none:=by
    show (if jE (some u) n<u then (none:Rs) else some (some u,some (jE (some u) n)))=none
    rw [ht,if_pos (by omega)]
   have f2:fD true u n=false:=by
    unfold fD
    rw [if_pos rfl]
    exact decide_eq_false h
   rw [f1,f3,f2]
   rfl
 | false =>
  have e1:∀s,dM (wT false) (some u) (some u) n s=oR (some u) (some u) n s:=fun s=>by
   unfold dM
   rw [if_neg (show ¬wT false=("less" : Str) from yd)]
  have e2:oR (some u) (some u) n true=nv (some u) (some u) n:=by
   unfold oR
   rw [if_pos rfl]
  have e3:oR (some u) (some u) n false=iy (some u) (some u) n:=by
   unfold oR
   rw [if_neg (by decide)]
  rw [e1,e1,e2,e3]
  by_cases h:u=n
  ·subst h
   have f1:iy (some u) (some u) u=none:=by
    unfold iy
    rw [if_pos rfl,if_pos rfl]
   have f2:fD false u u=true:=by
    unfold fD
    rw [if_neg (by decide)]
    exact decide_eq_true rfl
   rw [f1,if_pos f2]
   rfl
  ·have h1:¬((some u:Option Int)=some n):=fun z=>h (GL.inj z)
   have f1:iy (some u) (some u) n=some (some u,some u):=by
    unfold iy
    rw [if_neg h1,if_neg h1]
   have f3:nv (some u) (some u) n=none:=by
    have hl:kL n (some u) (some u)=false:=by
     show (decide (u<=n)&&decide (n<=u))=false
     by_cases g:u<=n
     ·rw [decide_eq_false (show ¬n<=u by omega),Bool.and_false]
     ·rw [decide_eq_false g,Ih]
    unfold nv
    rw [hl,if_neg (by decide)]
   have f2:fD false u n=false:=by
    unfold fD
    rw [if_neg (by decide)]
    exact decide_eq_false h
   rw [f1,f3,f2]
   rfl
theorem eI {H:Hp}:∀ns:List Int,br H (ns.map V.int) (ns.map PyData.int)
 | []=>.nil
 | n::ns=>.cons (.int n) (eI ns)
theorem fE {H1:Hp}{p q c:Addr}{o o1 o2:HO}(h:H1 c=some o)(n:c≠p)(hq:H1 q=none):(upd (upd H1 q o1) p o2) c=some o:=by
 rw [ai n,ai (aw h hq)];exact h
theorem eC {H H1:Hp}{p q:Addr}{u:HO}(k:∀c o,H c=some o->c≠p->H1 c=some o)(h1:H1 p=some u)(hn:H1 q=none):H q=none/\q≠p:=by
 have n:q≠p:=fun z=>by rw [z,h1] at hn;cases hn
 refine⟨?_,n⟩
 cases e:H q with
 | none=>rfl
 | some o=>rw [k q o e n] at hn;cases hn
end L2
namespace HT
open PySem PyProof.Rows PySem.Spec
section
variable {prog:Program}{w:World}{A:Around}{E:Value->Shared->Prop}{s:Shared}
theorem oA {t sl:Addr}{items:Array Value}{vl vu:Value}{lo hi:Option Int}{Q:Value->Shared->Prop}(ht:IsTup s.heap t items)(hs:s.heap.IsSliceOf sl vl vu .none)(pl:IsPart vl lo)(pu:IsPart vu hi)
  (hw:bR items.size 0 lo=0/\bR items.size items.size hi=items.size) (h:Q (.ref t) s):wpAny (model prog w) A (getItem (.ref t) (.ref sl)) Q E s:=by
 obtain⟨os,hos,hcs,hds⟩:=id hs
 have hTs:s.TypeIs (.ref sl) "slice" := ⟨os,hos,hcs⟩
 unfold getItem
 try with_reducible refine Jc ?_
 first | refine IZ (I0 ?_) | skip
 refine IZ (JD ht.typeIs (by decide) ?_)
 refine IZ (wpAny_callSpecial?_slot (name:=Str.ofString "__getitem__") ht.typeIs PyProof.Rows.slot_tuple_getitem
  (Jd PyProof.Rows.slot_tuple_getitem ht.typeIs entry_tuple_getitem ?_ (args_tuple_getitem _ _)))
 show wpAny _ _ (Builtin.Tuple.tupleItemsOf (.ref t) >>= _) _ _ s
 refine IZ (tupleItemsOf_ ht ?_)
 refine IZ (Jm hTs ?_)
 rw [if_pos (by decide)]
 refine IZ (kj hs pl pu ?_)
 have hno:((((bR items.size 0 lo:Nat):Int) == 0&&(1:Int) == 1&&(bR items.size items.size hi-bR items.size 0 lo) == items.size)=true):=by
  rw [hw.1,hw.2]
  simp
 show wpAny _ _ (if (((bR items.size 0 lo:Nat):Int) == 0&&(1:Int) == 1&&(bR items.size items.size hi-bR items.size 0 lo) == items.size)=true then _ else _) _ _ s
 rw [if_pos hno]
 refine IZ ?_
 unfold Builtin.Tuple.tupleIsExact
 refine IZ (Jm ht.typeIs (I0 ?_))
 rw [if_pos (by decide)]
 refine IZ (Ji ?_)
 first
  | exact I0 ⟨_,rfl,I0 h⟩
  | exact IZ (I0 (I0 ⟨_,rfl,I0 h⟩))
  | exact I0 (I0 ⟨_,rfl,I0 h⟩)
end
end HT
namespace L2
open PySem PySem.Spec PyProof.Rows
section
variable {X:Cx}
def EM (K:Gh):V->Option Int->Option Int->Hp->VK->Prop:=fun x lo hi H Q=>∃a xs,x=.ref a/\ay K H a xs /\
 ((HT.bR xs.length 0 lo=0/\HT.bR xs.length xs.length hi=xs.length)->Q (.ref a) H)/\(¬(HT.bR xs.length 0 lo=0/\HT.bR xs.length xs.length hi=xs.length)->∀p,H p=none->Q (.ref p) (upd H p (.tup (fC xs lo hi))))
theorem om:Ca X (EM X.K):=by
 intro pins s Gd H x v vl vu lo hi sl Q I rx hs pl pu h
 obtain⟨a,xs,rfl,hx,q1,q2⟩:=h
 by_cases hw:HT.bR xs.length 0 lo=0/\HT.bR xs.length xs.length hi=xs.length
 ·cases rx
  obtain⟨its,r,ht,hz⟩:=I.tuple hx
  have hlen:its.toArray.size=xs.length:=by rw [GF];exact r.length.symm
  refine⟨"tuple",_,PyProof.Rows.slot_tuple_getitem.lookup,ht.typeIs,?_⟩
  exact HT.oA ht hs pl pu (by rw [hlen];exact hw) ⟨.ref a,H,I,rfl,q1 hw⟩
 ·exact DH pins s Gd H (.ref a) v vl vu lo hi sl Q I rx hs pl pu ⟨a,xs,rfl,hx,hw,q2 hw⟩
end
theorem FY {α : Type}{x y z u v:α}{xs:List α}:fw (x::y::z::u::v::xs) 4=some v:=bI (j:=4) rfl
theorem E2 {α : Type}{x y z u v w:α}{xs:List α}:fw (x::y::z::u::v::w::xs) 5=some w:=bI (j:=5) rfl
theorem D3 {x y z r:Int}(h0:0<=r)(h1:r<3):∃g:Int,fw [V.int x,V.int y,V.int z] r=some (V.int g)/\(g=x\/g=y\/g=z):=by
 obtain rfl | rfl | rfl:r=0\/r=1\/r=2:=by omega
 ·exact⟨x,bM,.inl rfl⟩
 ·exact⟨y,cW,.inr (.inl rfl)⟩
 ·exact⟨z,at2,.inr (.inr rfl)⟩
theorem fJ.mono {H:Hp}{st d tl bl:Addr}{S:RS}{m m':Nat}(h:fJ H st d tl bl S m)(le:m<=m'):fJ H st d tl bl S m':=by
 obtain⟨h1,⟨kvs,h2,h3,h4⟩,h5,h6,h7,h8⟩:=h
 exact⟨h1,⟨kvs,h2,h3,Gy h4 le⟩,h5,h6,h7,Gy h8.1 le,Gy h8.2 (Ht le)⟩
theorem lay_ints:∀ns:List Int,(PyData.tuple (ns.map PyData.int)).canLay0=true
 | []=>rfl
 | n::ns=>by
  show (true&&(PyData.tuple (ns.map PyData.int)).canLay0)=true
  rw [lay_ints ns];rfl
theorem nE:∀ns:List Int,PyData.depthAll (ns.map PyData.int)=0
 | []=>rfl
 | n::ns=>by
  show max 0 (PyData.depthAll (ns.map PyData.int))=0
  rw [nE ns];rfl
theorem xj (S:RS):(ik S).depth<=60:=by
 show max 0 (max (PyData.depthAll (S.told.map PyData.int)+1) 0)+1<=60
 rw [nE];decide
theorem xk (S:RS)(h:PySem.PyData.canLay0 (.str S.word)=true):(ik S).canLay0=true:=by
 show (PySem.PyData.canLay0 (.str S.word)&&((PyData.tuple (S.told.map PyData.int)).canLay0&&true))=true
 rw [lay_ints,h];rfl
theorem yk (ps:List Piece) (nums:List Int) (S:RS):(cB ps nums S).word=S.word\/(cB ps nums S).word = "stop" \/ (cB ps nums S).word = "dry" := by
 unfold cB
 cases hx:ps[S.aP]? with
 | none=>exact .inl rfl
 | some pc =>
  obtain⟨ds,e⟩:=pc
  dsimp only
  cases hd:ds[S.place]? with
  | none =>
   dsimp only
   cases e with
   | stop=>exact .inr (.inl rfl)
   | go q=>exact .inl rfl
   | cE b x n q r=>exact .inl rfl
  | some dd =>
   dsimp only
   cases dd with
   | read x =>
    unfold fG
    cases hn:nums[S.taken]? with
    | none=>exact .inr (.inr rfl)
    | some n=>exact .inl rfl
   | put x n=>exact .inl rfl
   | copy x y=>exact .inl rfl
   | add x n=>exact .inl rfl
   | tell x=>exact .inl rfl
theorem tw {ps:List Piece} {nums:List Int} {S:RS} (h:S.word = "on"):∀n,(aM ps nums n S).word = "on" \/ (aM ps nums n S).word = "stop" \/ (aM ps nums n S).word = "dry"
 | 0=>.inl h
 | n+1=>by
  by_cases hw:(aM ps nums n S).word = "on"
  ·rw [rW hw]
   rcases yk ps nums (aM ps nums n S) with z | z
   ·exact .inl (z.trans hw)
   ·exact .inr z
  ·rw [i6 hw 1]
   exact tw h n
theorem vc {ps:List Piece} {nums:List Int} {S:RS} (h:S.word = "on") (n:Nat):PySem.PyData.canLay0 (.str (aM ps nums n S).word)=true:=by
 rcases tw (ps:=ps) (nums:=nums) h n with z | z | z <;> (rw [z];decide +kernel)
def pF:Sp:=fun vs H Q _=>∃(b:Addr),vs=[.ref b]/\cQ H b/\∀(t:Addr) (nums:List Int) (H':Hp),H' t=some (.tup (nums.map V.int))->cQ H' b->Fix b H H'->Q (.ref t) H'
theorem oS {P:Program}{w:World}{x:Str}{v:Value}(h:(aW P w).is (Sum.inr x) v=true):∃t,v=.str x t:=by
 cases v with
 | str y t =>
  have:y=x:=by simpa [aW,jf,Value.isStrOf] using h
  exact⟨t,by rw [this]⟩
 | _=>simp [aW,jf,Value.isStrOf] at h
theorem qD:∀{vs:List Value} {ks:List Str},vs.length=ks.length->(∀(j:Nat) (v:Value) (x:Str),vs[j]?=some v->ks[j]?=some x->∃t,v=.str x t)->StrsAre vs ks
 | [],[],_,_=>.nil
 | v::vs,x::ks,hl,h=>by
  obtain⟨t,rfl⟩:=h 0 v x rfl rfl
  exact .cons x t (qD (by simpa using hl) fun j v' x' h1 h2=>h (j+1) v' x' (by simpa using h1) (by simpa using h2))
 | [],_::_,hl,_=>by simp at hl
 | _::_,[],hl,_=>by simp at hl
section
variable {prog:Program}{w:World}{A:Around}{E:Value->Shared->Prop}{s:Shared}
open PySem.Calls PySem.W in
theorem gather {T:String}{r d:Addr}{n:Nat}{P:Nat->Value->Prop}{OK:Heap->Prop}{G:List Value->Shared->Prop}(src:KdlSrc prog w T r d n P OK)(calm:A.handled=none)(ok:OK s.heap)(bK:n<=sizeLine)
  (fin:∀(g:Heap) (tk:Nat) (got:Array Value),(∀b o,s.heap.get? b=some o->g.get? b=some o)->ItemsOf P got n->s.heap.objs.size<=g.objs.size->G got.toList { s with heap:=g,toks:=tk }) :
  wpAny (model prog w) A (collect (.ref r)) G E s:=by
 obtain⟨lt1,lt2⟩:=src.there _ ok
 unfold collect
 refine IZ (wpAny_runValue (Jh entry_proto_collect' ?_))
 rw [Hm PySem.F.plain_proto_collect _]
 show wpAny _ A.in1 (newList [] >>= fun z=>again (.builtin "list.__iadd__" ⟨[z,.ref r],[]⟩)) _ _ s
 refine IZ (Je (I0 ⟨plainId_quiet PySem.F.plain_list_iadd _,Jh entry_list_iadd' ?_⟩))
 rw [Hm PySem.F.plain_list_iadd _]
 show wpAny _ A.in1 (Builtin.List.listExtendWith (.ref s.heap.objs.size) (.ref r) (.ref s.heap.objs.size)) _ _ _
 have made:(s.heap.push { cls:=.type "list",data:=.seq ([]:List Value).toArray }).get? s.heap.objs.size=some { cls:=.type "list",data:=.seq #[] }:=Gx _ rfl
 have run:=kdl_extend (A:=A) (s:={ s with heap:=s.heap.push { cls:=.type "list",data:=.seq ([]:List Value).toArray } })
  (R:=fun (z:Result) (t:Shared)=>∃(g:Heap) (tk:Nat) (got:Array Value) (c:Nat),z=.ok (.ret (.ref s.heap.objs.size))/\t={ s with heap:=g,toks:=tk } /\
   (∀b o,s.heap.get? b=some o->g.get? b=some o)/\g.get? s.heap.objs.size=some { cls:=.type "list",dict:=none,data:=.seq got c,slots:=#[] }/\ItemsOf P got n)
  src calm (src.keep _ _ ok fun b _ o e=>Gs _ e) s.heap.objs.size (Hq lt1) (Hq lt2) (.ref s.heap.objs.size) 0 made
  (fun g tk got c kept at_ its=>⟨g,tk,got,c,rfl,rfl,fun b o e=>kept b o (Gw (Gq e)) (Gs _ e),at_,its⟩) bK
 refine Ja run (fun z t x=>?_) fun z t ⟨_,_,_,_,bad,_⟩=>by cases bad
 cases z with
 | done f =>
  obtain⟨g,tk,got,c,e,rfl,kept,at_,its⟩:=x
  cases e
  show wpAny _ A (load s.heap.objs.size >>= _) _ _ _
  exact IZ (wpAny_load at_ (I0 (fin g tk got kept its (G3 (Gq at_)))))
 | again more =>
  refine⟨x.1,Jj x.2 fun z' t' ⟨g,tk,got,c,e1,e2,kept,at_,its⟩=>?_⟩
  subst e1 e2
  show wpAny _ A (load s.heap.objs.size >>= _) _ _ _
  exact IZ (wpAny_load at_ (I0 (fin g tk got kept its (G3 (Gq at_)))))
theorem vd {a:Addr}{kvs:List (Key×Value)}{ks:List Str}{Q:Value->Shared->Prop}(hh:A.handled=none)(lo:(a == sysModules)=false)(dd:s.heap.DictOf (aW prog w) a kvs)
  (hk:kvs.map (·.1)=ks.map Sum.inr) (h64:ks.length<64)
  (h:∀(h':Heap) (tk:Nat) (D:Addr) (out:Array Value) (ss':List Str) (e:Nat),(∀b o,s.heap.get? b=some o->h'.get? b=some o)->s.heap.objs.size<=D->h'.get? D=some { cls:=.type "list",data:=.seq out e } ->
   StrsAre out.toList ss'->ss'.Perm ks->sortedS ss' = true->Q (.ref D) { s with heap:=h',toks:=tk }) :
  wpAny (model prog w) A (call (.builtin "sorted") [.ref a]) Q E s:=by
 refine Calls.call_function_entry kind_sorted plain_sorted entry_sorted (args_sorted1 _) ?_
 unfold Builtin.«sorted»
 refine IZ (m:=checkCount "sorted" 1 1 _) (I0 ?_)
 obtain⟨ep,hat⟩:=dd.dictAt
 have hlk:kvs.length=ks.length:=by have:=congrArg Hx hk;simpa using this
 have hs:sizeLine=16777216\/64<=sizeLine:=.inr (by decide)
 have hz:kvs.length<=sizeLine:=by rw [hlk];exact Gy (G3 h64) (by decide)
 refine IZ (gather (A:=A.in1) (PySem.W.kdl_dict (knd:=aW prog w) (kvs:=kvs) (ep:=ep) lo) hh hat hz fun h' tk acc hkeep hacc hsz=>?_)
 have hl:acc.toList.length=ks.length:=by rw [G4,hacc.1,hlk]
 have hS:StrsAre acc.toList ks:=qD hl fun j v x h1 h2=>by
  obtain⟨k,y,e1,e2⟩:=hacc.2 j v (by rw [<-Ir];exact h1)
  have e3:(kvs.map (·.1))[j]?=some k:=by rw [GI,e1];rfl
  rw [hk,GI,h2] at e3
  cases (GL.inj e3)
  exact oS e2
 refine IZ (wpAny_newList ?_ (by rw [hl];exact Gy (G3 h64) (by decide)))
 have hoL:(h'.push (seqObj "list" acc.toList.toArray 0)).get? h'.objs.size=some (seqObj "list" acc.toList.toArray 0):=Gx _ rfl
 refine IZ (Jc (Jd slot_list_sort ⟨_,hoL,rfl⟩ entry_list_sort (list_sort_treeK strKind_oneLt hoL hS.keysOf (fun v₁ v₂ rest e=>keyKind_strs (by rw [<-e];exact hS)) (by rw [hl];exact h64) fun st' a1 a2=>⟨_,rfl,?_⟩) (args_list_sort _)))
 obtain⟨ss',b1,b2,b3⟩:=sorted_out_str hS a1 a2
 obtain⟨e,he⟩:=sortedHeap_at (out:=(arrOf st').map (·.2)) hoL
 refine I0 ⟨_,rfl,h _ tk _ _ ss' e (fun b o ho=>?_) hsz he b1 b2 b3⟩
 have h1:=hkeep b o ho
 have hlt:=Gq h1
 rw [sortedHeap_old (Gw hlt) (by rw [size_push'];exact Hb hlt)]
 exact Gs _ h1
end
theorem rZ:∀{us:List Value} {ys:List Str},StrsAre us ys->Vals (ys.map V.str) us
 | _,_,.nil=>.nil
 | _,_,.cons x t r=>.cons ⟨t,rfl⟩ (rZ r)
section
variable {X:Cx}
theorem ve (hc:X.calm=true):eZ X (.builtin "sorted") (fun vs H Q=>∃(a:Addr) (kvs:List (Key×V)) (ks:List Str),vs=[.ref a]/\H a=some (.dK kvs)/\kvs.map (·.1)=ks.map Sum.inr/\ks.length<64 /\
  ∀(l:Addr) (ss:List Str),ss.Perm ks->sortedS ss=true->H l=none->Q (.ref l) (upd H l (.lst (ss.map V.str)))):=by
 intro pins s Gd H xs us Q I r h
 obtain⟨a,kvs,ks,rfl,ha,hk,h64,q⟩:=h
 obtain⟨u,rfl,ru⟩:=vals1 r
 cases (show u=Value.ref a from ru)
 obtain⟨z,hd,vs,rel,dd⟩:=ya I.aZ ha
 refine vd (I.ok.hd hc) hd dd (by rw [<-rel.keys];exact hk) h64 fun h' tk D out ss' e hkeep hD he hS hp hs=>?_
 have hv:Vals (ss'.map V.str) out.toList:=rZ hS
 refine⟨.ref D,_,I.laid (t':=tk) (o:=.lst (ss'.map V.str)) hkeep hD (show cA X.prog X.w _ h' _ (.lst (ss'.map V.str)) from ⟨?_,out.toList,e,hv,by simpa using he⟩),rfl,q D ss' hp hs (I.aZ.fresh hD)⟩
 rw [Gg,hp.length_eq]
 exact Gy (G3 h64) (by decide)
end
section
variable {X:Cx}
end
theorem sub_len {α : Type}[DecidableEq α]:∀{l m:List α},l.Nodup->(∀x∈l,x∈m)->l.length<=m.length
 | [],_,_,_=>GK _
 | x::l,m,nd,h=>by
  rw [Hr] at nd
  have hx:=h x (GB ..)
  have h1:=sub_len (l:=l) (m:=m.erase x) nd.2 fun y hy=>(List.mem_erase_of_ne (fun z=>nd.1 (by rw [<-z];exact hy))).mpr (h y (GC _ hy))
  rw [List.length_erase_of_mem hx] at h1
  have h2:0<m.length:=List.length_pos_of_mem hx
  show l.length+1<=m.length
  omega
theorem kN:bootBuiltins "sorted" = some (.builtin "sorted"):=PyProof.Rows.boot_sorted
theorem zH {kvs:List (Key×V)}{k:Key}{v:V}:(putK kvs k v).map (·.1)=kvs.map (·.1)/\k∈kvs.map (·.1)\/(putK kvs k v).map (·.1)=kvs.map (·.1)++[k]/\¬k∈kvs.map (·.1):=by
 unfold putK
 by_cases h:(kvs.any fun kv=>decide (kv.1=k))=true
 ·rw [if_pos h]
  refine .inl ⟨?_,?_⟩
  ·rw [Hu]
   refine HK fun p _=>?_
   show (if p.1=k then (p.1,v) else p).1=p.1
   split <;> rfl
  ·obtain⟨p,hp,he⟩:=List.any_eq_true.mp h
   exact GH.mpr ⟨p,hp,of_decide_eq_true he⟩
 ·rw [if_neg h]
  refine .inr ⟨by rw [Gz];rfl,fun hm=>h ?_⟩
  obtain⟨p,hp,he⟩:=GH.mp hm
  exact List.any_eq_true.mpr ⟨p,hp,decide_eq_true he⟩
def qE:cH->Str
 | .put x _=>x
 | .copy x _=>x
 | .add x _=>x
 | .read x=>x
 | .tell x=>x
theorem AZ (dd:cH):fw (jg dd) 1=some (.str (qE dd)):=by cases dd <;> exact cW
theorem eW.name {xs:List Str}{dd:cH}(h:eW xs dd):qE dd∈xs:=by
 cases dd with
 | put x n=>exact h.1
 | copy x y=>exact h.1
 | add x n=>exact h.1
 | read x=>exact h
 | tell x=>exact h
theorem cQ.put {H:Hp}{b p:Addr}{o:HO}(h:cQ H b)(n:b≠p):cQ (upd H p o) b:=by
 obtain⟨x,y,e,z⟩:=h
 exact⟨x,y,by rw [ai n];exact e,z⟩
section
variable {X:Cx}
end
section
variable {a0 a1 z:V}
end
section
variable {C D:Addr}{H H':Hp}{wp p pl d nl sl:Addr}{plv:V}{nums:List Int}{S:RS}{m:Nat}
theorem bE.keep (A:bE C H p pl d nl sl plv nums S m)(k:∀c o,H c=some o->(c=p\/c=pl\/c=d\/c=nl\/c=sl)->H' c=some o):bE C H' p pl d nl sl plv nums S m:=by
 obtain⟨⟨dx,h1⟩,h2,h3,⟨kvs,h4,h5⟩,h6,h7,h8,h9⟩:=A
 exact⟨⟨dx,k _ _ h1 (.inl rfl)⟩,k _ _ h2 (.inr (.inl rfl)),h3,⟨kvs,k _ _ h4 (.inr (.inr (.inl rfl))),h5⟩,k _ _ h6 (.inr (.inr (.inr (.inl rfl)))),k _ _ h7 (.inr (.inr (.inr (.inr rfl)))),h8,h9⟩
end
section
variable (C D:Addr)
end
section
variable {C D:Addr}{H H':Hp}{wp p pl d nl sl st d2 tl bl np:Addr}{plv:V}{nums nums':List Int}{S S':RS}{m m':Nat}
end
section
variable (C D:Addr)
end
section
variable {C D:Addr}{H0 H H1 H2:Hp}{wp p pl d nl sl st st' d2 tl bl np b:Addr}{plv:V}{nums more:List Int}{S S':RS}{m m':Nat}
end
theorem Ba (ns:List Int):(PyData.tuple (ns.map PyData.int)).depth<=60:=by
 simp [PyData.depth,nE]
section
variable {X:Cx}
def EN:R2:=fun x y H Q=>∃a b xs ys,x=.ref a/\y=.ref b/\H a=some (.tup xs)/\H b=some (.tup ys)/\xs.length+ys.length<=sizeLine/\∀t H',H' t=some (.tup (xs++ys))->ar H H'->Q (.ref t) H'
theorem xl:fq X (binaryOp .Add) EN:=by
 intro pins s Gd H x y v u Q I rx ry h
 obtain⟨a,b,xs,ys,rfl,rfl,ha,hb,hz,q⟩:=h
 cases rx
 cases ry
 obtain⟨its,r1,p1,_⟩:=I.tuple (ay.of ha)
 obtain⟨its2,r2,p2,_⟩:=I.tuple (ay.of hb)
 by_cases hx:xs=[]
 ·subst hx
  have hi:its=[]:=r1.rE.mpr rfl
  subst hi
  obtain⟨⟨cls,dd,data,sl⟩,ho,hc,n,hd⟩:=id p1
  obtain⟨⟨cls2,dd2,data2,sl2⟩,ho2,hc2,n2,hd2⟩:=id p2
  simp only at hc hd hc2 hd2
  subst hc hd hc2 hd2
  exact concat_meets ⟨_,ho,rfl⟩ ⟨_,ho2,rfl⟩ noFill_tuple_add seq_tuple_add PySem.F.slot_tuple_add PySem.F.entry_tuple_add (PySem.F.args_tuple_add_2 _ _)
   (tuple_addW0 a b [].toArray its2.toArray n n2 dd dd2 sl sl2 (by simp)) ⟨ho,ho2,⟨.ref b,H,I,rfl,q b H hb (ar.refl H)⟩⟩
 ·refine HT.CB p1 p2 (fun z=>hx (r1.rE.mp z)) (fun z=>⟨.ref a,H,I,rfl,q a H (by rw [r2.rE.mp z,HF];exact ha) (ar.refl H)⟩) (fun z=>?_) (by rw [<-r1.length,<-r2.length];exact hz)
  have fr:=I.aZ.fresh (a:=s.heap.objs.size) (Gi _)
  refine⟨.ref s.heap.objs.size,_,I.laid (t':=s.toks) (o:=.tup (xs++ys)) (fun b ob q=>Gs _ q) (Gi _) ?_,rfl,q _ _ ae (ar.new fr)⟩
  exact⟨by rw [Gr];exact hz,_,r1.append r2,⟨_,Gx _ rfl,rfl,_,rfl,rfl⟩⟩
end
section
variable {ps:List Piece}{nums more:List Int}{S S0:RS}{m n:Nat}
end
section
variable {ps:List Piece}{nums more:List Int}{S:RS}{m n:Nat}
end
inductive Call where
 | hand (ns:List Int)
 | go (n:Nat)
structure D4 where
 S:RS
 nums:List Int
 m:Nat
structure WA where
 wp:Addr
 p:Addr
 pl:Addr
 d:Addr
 nl:Addr
 sl:Addr
section
variable {C D:Addr}{H H' H0:Hp}{x y:WA}{pv pv':V}{s s':D4}{c:Addr}{o:HO}
end
section
variable (C D:Addr)
end
section
variable {C D:Addr}{H0 H H1:Hp}{w0 w1 w2:WA}{wl cl nb:Addr}{plv ov:V}{x0 x1 x2 x':D4}{n0 n1 n':List Int}{vs:List V}{cs:List Call}
end
section
variable {prog:Program}{w:World}{A:Around}{E:Value->Shared->Prop}{s:Shared}
theorem vf {j t:Addr}{n:Nat}{its:Array Value}{x:Value}{Q:Value->Shared->Prop}(hj:s.heap.IsTupleIter j t n)(ht:s.heap.IsTuple t its)(hx:its[n]?=some x)
  (hQ:∀g,g.IsTupleIter j t (n+1)->GX j s.heap g->Q x { s with heap:=g }):wpAny (model prog w) A (Builtin.SmallTypes.nextOf (.ref j)) Q E s:=by
 obtain⟨ob,eo,ec,ed⟩:=id hj
 obtain⟨ot,et,_,k,ek⟩:=ht
 unfold Builtin.SmallTypes.nextOf
 refine IZ (wpAny_callSpecial?_slot (name:=Str.ofString "__next__") hj.typeIs F.slot_tuple_iterator_next (Jd F.slot_tuple_iterator_next hj.typeIs F.entry_tuple_iterator_next ?_ (F.args_tuple_iterator_next_1 _)))
 show wpAny _ _ (field (.ref j) 0 >>= _) _ _ s
 refine IZ (Jf eo ed (x:=.ref t) rfl ?_)
 show wpAny _ _ (if (Value.ref t == Value.none)=true then _ else _) _ _ s
 refine (if_neg (c:=(Value.ref t == Value.none)=true) GR) ▸ ?_
 show wpAny _ _ (field (.ref j) 1 >>= _) _ _ s
 refine IZ (Jf eo ed (x:=.int n 0) rfl (IZ (Jg et ek ?_)))
 simp only [hx,Hs]
 refine IZ (Jk eo ed (by simp) (I0 ⟨x,rfl,I0 (hQ _ ⟨_,Hi _ eo (Obj.isFreed_of_fields (Obj.data_mapFields ed _)),(Obj.cls_mapFields ..).trans ec,?_⟩ (GX.update ..))⟩))
 rw [Obj.data_mapFields ed];simp [rawInt]
theorem xm {j t:Addr}{n:Nat}{its:Array Value}{Q:Value->Shared->Prop}(ha:A.handled=none)(hj:s.heap.IsTupleIter j t n)(ht:s.heap.IsTuple t its)(hx:its[n]?=none)
    (hE:∀g e,Heap.ExtBut j s.heap g->(∃o,g.get? e=some o/\o.cls=.type "StopIteration")->E (.ref e) { s with heap:=g }):wpAny (model prog w) A (Builtin.SmallTypes.nextOf (.ref j)) Q E s:=by
  obtain⟨ob,eo,ec,ed⟩:=id hj
  obtain⟨ot,et,_,k,ek⟩:=ht
  unfold Builtin.SmallTypes.nextOf
  refine IZ (wpAny_callSpecial?_slot (name:=Str.ofString "__next__") hj.typeIs F.slot_tuple_iterator_next (Jd F.slot_tuple_iterator_next hj.typeIs F.entry_tuple_iterator_next ?_ (F.args_tuple_iterator_next_1 _)))
  show wpAny _ _ (field (.ref j) 0 >>= _) _ _ s
  refine IZ (Jf eo ed (x:=.ref t) rfl ?_)
  show wpAny _ _ (if (Value.ref t == Value.none)=true then _ else _) _ _ s
  refine (if_neg (c:=(Value.ref t == Value.none)=true) GR) ▸ ?_
  show wpAny _ _ (field (.ref j) 1 >>= _) _ _ s
  refine IZ (Jf eo ed (x:=.int n 0) rfl (IZ (Jg et ek ?_)))
  simp only [hx,Hs]
  refine IZ (Ji (IZ (Jk eo ed (by simp) ?_)))
  show wpAny _ _ (newExc (.type "StopIteration") [] >>= fun _=>_) _ _ _
  refine IZ ?_
  simp only [newTuple,newExc]
  refine IZ (Je (IZ (m:=firstArgMember _ _) (wpAny_of_eq (a:=Value.none) (by first | rfl | (simp only [firstArgMember];rfl)) (Je ?_ (by size_fits)))) (by size_fits))
  simp only [raiseNew]
  refine IZ (wpAny_handled (by
    first | rw [show A.in1.handled=none from ha] | rw [ha]
    exact IZ (I0 (wpAny_throw (hE _ _ (((GX.update ..).extBut.push _).push _) ⟨_,Gx _ rfl,rfl⟩)))))
structure xn (z p q j k a b:Addr):Prop where
 pz:p≠z
 qz:q≠z
 jz:j≠z
 kz:k≠z
 pq:p≠q
 pj:p≠j
 pk:p≠k
 qj:q≠j
 qk:q≠k
 jk:j≠k
 az:a≠z
 aq:a≠q
 aj:a≠j
 ak:a≠k
 bz:b≠z
 bq:b≠q
 bj:b≠j
 bk:b≠k
theorem jX {h g:Heap}{a:Addr}{xs:Array Value}(x:h.IsTuple a xs)(k:∀o,h.get? a=some o->g.get? a=some o):g.IsTuple a xs:=by
 obtain⟨o,e,r⟩:=x
 exact⟨o,k o e,r⟩
theorem CS {z p q j k a b:Addr}{m n:Nat}{xs ys:Array Value}{x y u v:Value}{Q:Value->Shared->Prop}(D:xn z p q j k a b)
  (gz:IsZip s.heap z p q .none) (gp:IsPair s.heap p (.ref j) (.ref k)) (gq:IsPair s.heap q u v)
  (gj:s.heap.IsTupleIter j a m) (gk:s.heap.IsTupleIter k b n) (ga:s.heap.IsTuple a xs) (gb:s.heap.IsTuple b ys) (hx:xs[m]?=some x) (hy:ys[n]?=some y)
  (hQ:∀g,IsZip g z p q (rawInt s.heap.objs.size)->IsPair g q x y->g.IsTupleIter j a (m+1)->g.IsTupleIter k b (n+1)->IsPair g s.heap.objs.size x y->g.objs.size=s.heap.objs.size+1 ->
   (∀c o,c≠z->c≠q->c≠j->c≠k->s.heap.get? c=some o->g.get? c=some o)->Q (.ref s.heap.objs.size) { s with heap:=g }) :
  wpAny (model prog w) A (Builtin.«zip.__next__» ⟨[.ref z],[]⟩) (fun fin s'=>∃v,fin=.done (.ret v)/\Q v s') E s:=by
 show wpAny _ _ (field (.ref z) 2 >>= fun _=>_) _ _ _
 refine IZ (Jf gz rfl (x:=.bool false) rfl ?_)
 show wpAny _ _ (field (.ref z) 3 >>= fun _=>_) _ _ _
 refine IZ (Jf gz rfl (x:=.ref p) rfl (IZ (Jg gp rfl ?_)))
 show wpAny _ _ (Builtin.SmallTypes.ownedTupleIsFree (.ref z) >>= fun _=>_) _ _ _
 refine IZ ?_
 unfold Builtin.SmallTypes.ownedTupleIsFree
 refine IZ (Jf gz rfl (x:=.none) rfl (I0 ?_))
 simp only [if_true]
 refine IZ (Ji (IZ (Jf gz rfl (x:=.ref q) rfl (IZ (Jq gz (by simp) fun g1 gz1 t1=>?_)))))
 replace gz1:IsZip g1 z p q .ellipsis:=gz1
 refine IZ ?_
 simp only [HA,Iy,List.zipIdx_cons,List.zipIdx_nil]
 refine IZ (IZ (Jy ?_))
 show wpAny _ _ (Builtin.SmallTypes.nextOf (.ref j) >>= fun _=>_) _ _ _
 refine IZ (vf (gj.extBut t1.extBut D.jz) (jX ga fun o e=>t1.extBut _ _ D.az e) hx fun g2 gj2 t2=>I0 ?_)
 have gq2:IsPair g2 q u v:=t2.extBut _ _ D.qj (t1.extBut _ _ D.qz gq)
 refine IZ (Jg gq2 rfl (IZ (JE gq2 fun g3 gq3 t3=>?_)))
 replace gq3:IsPair g3 q x v:=gq3
 refine IZ (wpAny_letGo (I0 (IZ (IZ (Jy ?_)))))
 show wpAny _ _ (Builtin.SmallTypes.nextOf (.ref k) >>= fun _=>_) _ _ _
 refine IZ (vf (((gk.extBut t1.extBut D.kz).extBut t2.extBut D.jk.symm).extBut t3.extBut D.qk.symm) (jX gb fun o e=>t3.extBut _ _ D.bq (t2.extBut _ _ D.bj (t1.extBut _ _ D.bz e))) hy fun g4 gk4 t4=>I0 ?_)
 have gq4:IsPair g4 q x v:=t4.extBut _ _ D.qk gq3
 refine IZ (Jg gq4 rfl (IZ (JE gq4 fun g5 gq5 t5=>?_)))
 replace gq5:IsPair g5 q x y:=gq5
 refine IZ (wpAny_letGo (I0 (I0 (IZ (Jg gq5 rfl (IZ (wpAny_newTuple ?_)))))))
 have ez:g5.objs.size=s.heap.objs.size:=by rw [t5.1,t4.1,t3.1,t2.1,t1.1]
 have gz5:IsZip g5 z p q .ellipsis:=t5.extBut _ _ D.qz.symm (t4.extBut _ _ D.kz.symm (t3.extBut _ _ D.qz.symm (t2.extBut _ _ D.jz.symm gz1)))
 have k5:∀c o,c≠z->c≠q->c≠j->c≠k->s.heap.get? c=some o->g5.get? c=some o:=fun c o c1 c2 c3 c4 e=>t5.extBut _ _ c2 (t4.extBut _ _ c4 (t3.extBut _ _ c2 (t2.extBut _ _ c3 (t1.extBut _ _ c1 e))))
 have gj5:g5.IsTupleIter j a (m+1):=((gj2.extBut t3.extBut D.qj.symm).extBut t4.extBut D.jk).extBut t5.extBut D.qj.symm
 have gk5:g5.IsTupleIter k b (n+1):=gk4.extBut t5.extBut D.qk.symm
 have lz:z<g5.objs.size:=Gq gz5
 show wpAny _ _ (Builtin.SmallTypes.ownedTupleHandOut (.ref z) (.ref g5.objs.size) >>= fun _=>_) _ _ _
 refine IZ ?_
 unfold Builtin.SmallTypes.ownedTupleHandOut
 have gz6:IsZip (g5.push { cls:=.type "tuple",data:=.seq #[x,y] }) z p q .ellipsis:=Gs _ gz5
 refine IZ (Jq gz6 (by simp) fun g7 gz7 t7=>?_)
 replace gz7:IsZip g7 z p q (rawInt g5.objs.size):=gz7
 refine Jq gz7 (by simp) fun g8 gz8 t8=>?_
 replace gz8:IsZip g8 z p q (rawInt g5.objs.size):=gz8
 have up:∀c o,c≠z->g5.get? c=some o->g8.get? c=some o:=fun c o c1 e=>t8.extBut _ _ c1 (t7.extBut _ _ c1 (Gs _ e))
 have gT:IsPair g8 g5.objs.size x y:=t8.extBut _ _ (Hq lz) (t7.extBut _ _ (Hq lz) (Gx _ rfl))
 have e8:g8.objs.size=g5.objs.size+1:=by rw [t8.1,t7.1,GU]
 rw [ez] at gz8 gT e8
 refine I0 ⟨_,rfl,?_⟩
 show Q (.ref g5.objs.size) _
 rw [ez]
 refine hQ g8 gz8 (up _ _ D.qz gq5) ?_ ?_ gT e8 fun c o c1 c2 c3 c4 e=>up c o c1 (k5 c o c1 c2 c3 c4 e)
 ·obtain⟨o,e,r⟩:=gj5
  exact⟨o,up _ _ D.jz e,r⟩
 ·obtain⟨o,e,r⟩:=gk5
  exact⟨o,up _ _ D.kz e,r⟩
theorem D5 {z p q j k a b:Addr}{m n:Nat}{xs ys:Array Value}{u v:Value}{Q:Fin->Shared->Prop}(ha:A.handled=none)(D:xn z p q j k a b)
  (gz:IsZip s.heap z p q .none) (gp:IsPair s.heap p (.ref j) (.ref k)) (gq:IsPair s.heap q u v)
  (gj:s.heap.IsTupleIter j a m) (gk:s.heap.IsTupleIter k b n) (ga:s.heap.IsTuple a xs) (gb:s.heap.IsTuple b ys) (hend:xs[m]?=none\/ys[n]?=none)
  (hE:∀g e,(∀c o,c≠z->c≠q->c≠j->c≠k->s.heap.get? c=some o->g.get? c=some o)->(∃o,g.get? e=some o/\o.cls=.type "StopIteration")->E (.ref e) { s with heap:=g }) :
  wpAny (model prog w) A (Builtin.«zip.__next__» ⟨[.ref z],[]⟩) Q E s:=by
 show wpAny _ _ (field (.ref z) 2 >>= fun _=>_) _ _ _
 refine IZ (Jf gz rfl (x:=.bool false) rfl ?_)
 show wpAny _ _ (field (.ref z) 3 >>= fun _=>_) _ _ _
 refine IZ (Jf gz rfl (x:=.ref p) rfl (IZ (Jg gp rfl ?_)))
 show wpAny _ _ (Builtin.SmallTypes.ownedTupleIsFree (.ref z) >>= fun _=>_) _ _ _
 refine IZ ?_
 unfold Builtin.SmallTypes.ownedTupleIsFree
 refine IZ (Jf gz rfl (x:=.none) rfl (I0 ?_))
 simp only [if_true]
 refine IZ (Ji (IZ (Jf gz rfl (x:=.ref q) rfl (IZ (Jq gz (by simp) fun g1 gz1 t1=>?_)))))
 replace gz1:IsZip g1 z p q .ellipsis:=gz1
 refine IZ ?_
 simp only [HA,Iy,List.zipIdx_cons,List.zipIdx_nil]
 refine IZ (IZ (Jy ?_))
 show wpAny _ _ (Builtin.SmallTypes.nextOf (.ref j) >>= fun _=>_) _ _ _
 cases hx:xs[m]? with
 | none =>
  refine IZ (xm ha (gj.extBut t1.extBut D.jz) (jX ga fun o e=>t1.extBut _ _ D.az e) hx fun g2 e t2 he=>?_)
  obtain⟨oe,eoe,ce⟩:=he
  have gz2:IsZip g2 z p q .ellipsis:=t2 _ _ D.jz.symm gz1
  have ne:e≠z:=fun x=>by subst x;rw [gz2] at eoe;cases eoe;simp at ce
  exact Jq gz2 (by simp) fun g3 _ t3=>hE g3 e (fun c o c1 _ c3 _ x=>t3.extBut _ _ c1 (t2 _ _ c3 (t1.extBut _ _ c1 x))) ⟨oe,t3.extBut _ _ ne eoe,ce⟩
 | some x =>
  have hy:ys[n]?=none:=hend.elim (fun h=>by rw [hx] at h;cases h) id
  refine IZ (vf (gj.extBut t1.extBut D.jz) (jX ga fun o e=>t1.extBut _ _ D.az e) hx fun g2 gj2 t2=>I0 ?_)
  have gq2:IsPair g2 q u v:=t2.extBut _ _ D.qj (t1.extBut _ _ D.qz gq)
  refine IZ (Jg gq2 rfl (IZ (JE gq2 fun g3 gq3 t3=>?_)))
  refine IZ (wpAny_letGo (I0 (IZ (IZ (Jy ?_)))))
  show wpAny _ _ (Builtin.SmallTypes.nextOf (.ref k) >>= fun _=>_) _ _ _
  refine IZ (xm ha (((gk.extBut t1.extBut D.kz).extBut t2.extBut D.jk.symm).extBut t3.extBut D.qk.symm) (jX gb fun o e=>t3.extBut _ _ D.bq (t2.extBut _ _ D.bj (t1.extBut _ _ D.bz e))) hy fun g4 e t4 he=>?_)
  obtain⟨oe,eoe,ce⟩:=he
  have gz4:IsZip g4 z p q .ellipsis:=t4 _ _ D.kz.symm (t3.extBut _ _ D.qz.symm (t2.extBut _ _ D.jz.symm gz1))
  have ne:e≠z:=fun x=>by subst x;rw [gz4] at eoe;cases eoe;simp at ce
  exact Jq gz4 (by simp) fun g5 _ t5=>hE g5 e (fun c o c1 c2 c3 c4 x=>t5.extBut _ _ c1 (t4 _ _ c4 (t3.extBut _ _ c2 (t2.extBut _ _ c3 (t1.extBut _ _ c1 x))))) ⟨oe,t5.extBut _ _ ne eoe,ce⟩
theorem CT {z p q j k a b:Addr}{m n:Nat}{xs ys:Array Value}{x y u v:Value}{Q:Option Value->Shared->Prop}(D:xn z p q j k a b)
  (gz:IsZip s.heap z p q .none) (gp:IsPair s.heap p (.ref j) (.ref k)) (gq:IsPair s.heap q u v)
  (gj:s.heap.IsTupleIter j a m) (gk:s.heap.IsTupleIter k b n) (ga:s.heap.IsTuple a xs) (gb:s.heap.IsTuple b ys) (hx:xs[m]?=some x) (hy:ys[n]?=some y)
  (hQ:∀g,IsZip g z p q (rawInt s.heap.objs.size)->IsPair g q x y->g.IsTupleIter j a (m+1)->g.IsTupleIter k b (n+1)->IsPair g s.heap.objs.size x y->g.objs.size=s.heap.objs.size+1 ->
   (∀c o,c≠z->c≠q->c≠j->c≠k->s.heap.get? c=some o->g.get? c=some o)->Q (some (.ref s.heap.objs.size)) { s with heap:=g }) :
  wpAny (model prog w) A (pyNext (.ref z)) Q E s:=by
 have ty:s.TypeIs (.ref z) "zip" := ⟨_,gz,rfl⟩
 unfold pyNext
 exact IZ (Jn (wpAny_callSpecial?_slot (name:=Str.ofString "__next__") ty F.slot_zip_next (Jd F.slot_zip_next ty F.entry_zip_next
   (CS D gz gp gq gj gk ga gb hx hy fun g a1 a2 a3 a4 a5 a6 a7=>I0 (hQ g a1 a2 a3 a4 a5 a6 a7)) (F.args_zip_next_1 _))))
theorem CU {z p q j k a b:Addr}{m n:Nat}{xs ys:Array Value}{u v:Value}{Q:Option Value->Shared->Prop}(ha:A.handled=none)(D:xn z p q j k a b)
  (gz:IsZip s.heap z p q .none) (gp:IsPair s.heap p (.ref j) (.ref k)) (gq:IsPair s.heap q u v)
  (gj:s.heap.IsTupleIter j a m) (gk:s.heap.IsTupleIter k b n) (ga:s.heap.IsTuple a xs) (gb:s.heap.IsTuple b ys) (hend:xs[m]?=none\/ys[n]?=none)
  (hQ:∀g,(∀c o,c≠z->c≠q->c≠j->c≠k->s.heap.get? c=some o->g.get? c=some o)->Q none { s with heap:=g }):wpAny (model prog w) A (pyNext (.ref z)) Q E s:=by
 have ty:s.TypeIs (.ref z) "zip" := ⟨_,gz,rfl⟩
 unfold pyNext
 refine IZ (Jn (wpAny_callSpecial?_slot (name:=Str.ofString "__next__") ty F.slot_zip_next (Jd F.slot_zip_next ty F.entry_zip_next
   (D5 ha D gz gp gq gj gk ga gb hend fun g e hk he=>?_) (F.args_zip_next_1 _))))
 obtain⟨o,eo,ec⟩:=he
 exact IZ (Jt (T := "StopIteration") (b:=true) ⟨o,eo,ec⟩ isSubtype_stop (I0 (hQ _ hk)))
abbrev zI (h:Heap)(a:Addr):Heap:=h.push { cls:=.type "tuple_iterator",data:=.fields #[.ref a,.int 0 0] }
abbrev Ce (h:Heap)(a b:Addr):Heap:=(zI h a).push { cls:=.type "tuple_iterator",data:=.fields #[.ref b,.int 0 0] }
abbrev Cf (h:Heap)(a b:Addr):Heap:=(Ce h a b).push { cls:=.type "tuple",data:=.seq #[.ref h.objs.size,.ref (zI h a).objs.size] }
abbrev Cg (h:Heap)(a b:Addr):Heap:=(Cf h a b).push { cls:=.type "tuple",data:=.seq #[.none,.none] }
abbrev xo (h:Heap)(a b:Addr):Heap:=(Cg h a b).push { cls:=.type "zip",data:=.fields #[.none,.bool false,.bool false,.ref (Ce h a b).objs.size,.ref (Cf h a b).objs.size] }
theorem D6 (a b:Addr) (xs ys:Array Value):Meets (Builtin.«zip.__new__» ⟨[.type "zip",.ref a,.ref b],[]⟩) (fun _ R s=>s.heap.IsTuple a xs/\s.heap.IsTuple b ys /\
   R (.ok (.ret (.ref (Cg s.heap a b).objs.size))) { s with heap:=xo s.heap a b }) :=
 .of_wp fun P w' A' R' s' hh=>by
  obtain⟨hp,g,d,tk,os⟩:=s'
  obtain⟨ga,gb,hh⟩:=hh
  have hsub:=sub_zip
  have la:Heap.IsTuple (Shared.heap ⟨hp,g,d,tk,os⟩) a xs:=ga
  have lb:Heap.IsTuple (Shared.heap ⟨zI hp a,g,d,tk,os⟩) b ys:=jX gb fun o e=>Gs _ e
  wp_walk using Jx la,Jx lb
  exact⟨_,rfl,hh⟩
theorem CV {a b:Addr}{xs ys:Array Value}{Q:Value->Shared->Prop}(ga:s.heap.IsTuple a xs)(gb:s.heap.IsTuple b ys)
  (h:∀g,IsZip g (s.heap.objs.size+4) (s.heap.objs.size+2) (s.heap.objs.size+3) .none->IsPair g (s.heap.objs.size+2) (.ref s.heap.objs.size) (.ref (s.heap.objs.size+1)) ->
   IsPair g (s.heap.objs.size+3) .none .none->g.IsTupleIter s.heap.objs.size a 0->g.IsTupleIter (s.heap.objs.size+1) b 0 ->
   (∀c o,s.heap.get? c=some o->g.get? c=some o)->Q (.ref (s.heap.objs.size+4)) { s with heap:=g }) :
  wpAny (model prog w) A (call (.type "zip") [.ref a,.ref b]) Q E s:=by
 refine callType_new F.called_zip (by decide) (F.typeCall_zip_2 _ _) (F.newCall_zip_2 _ _) (fun obj=>F.args_object_init_3 obj _ _) F.entry_zip_new (D6 a b xs ys) ⟨ga,gb,?_⟩
 have z1:(zI s.heap a).objs.size=s.heap.objs.size+1:=GU ..
 have z2:(Ce s.heap a b).objs.size=s.heap.objs.size+2:=by rw [GU,z1]
 have z3:(Cf s.heap a b).objs.size=s.heap.objs.size+3:=by rw [GU,z2]
 have z4:(Cg s.heap a b).objs.size=s.heap.objs.size+4:=by rw [GU,z3]
 have up:∀{h:Heap} {c:Addr} {o o':Obj},h.get? c=some o->(h.push o').get? c=some o:=fun e=>Gs _ e
 have q5:(xo s.heap a b).get? (Cg s.heap a b).objs.size=some _:=Gx _ rfl
 have q4:(xo s.heap a b).get? (Cf s.heap a b).objs.size=some _:=up (Gx _ rfl)
 have q3:(xo s.heap a b).get? (Ce s.heap a b).objs.size=some _:=up (up (Gx _ rfl))
 have q2:(xo s.heap a b).get? (zI s.heap a).objs.size=some _:=up (up (up (Gx _ rfl)))
 have q1:(xo s.heap a b).get? s.heap.objs.size=some _:=up (up (up (up (Gx _ rfl))))
 show _/\_
 rw [z2,z3,z4] at q5
 rw [z1,z2] at q3
 rw [z3] at q4
 rw [z1] at q2
 rw [z4]
 exact⟨⟨_,q5,rfl⟩,h _ q5 q3 q4 ⟨_,q1,rfl,rfl⟩ ⟨_,q2,rfl,rfl⟩ fun c o x=>up (up (up (up (up x))))⟩
end
section
variable {X:Cx}{pins:List (Addr×Obj)}{Gd : List (Option V)}{H H':Hp}{s:Shared}{h':Heap}
theorem Inv.xp {t':Nat}{fp:List Addr}(I:Inv X pins Gd H s)(k:∀b o,b∉fp->s.heap.get? b=some o->h'.get? b=some o)(f:∀b∈fp,ke X pins H b):Inv X pins Gd H { s with heap:=h',toks:=t' }:=by
 have nit:∀b u,H b=some u->b∉fp:=fun b u e z=>by rw [(f b z).1] at e;cases e
 refine I.step (g':=s.gens) (d':=s.drawn) (ch:=fp) (fun b hb=>?_) (fun b o _ _ hc e _=>k b o hc e) (fun b o _ _ hc e _=>⟨o.slots,k b o hc e⟩) (fun _ _ _ _ n=>n)
  (fun b o hc e=>⟨o,k b o hc e⟩) (fun _ _ e=>e) (fun _ _ _ e=>e) (fun b ps e=>⟨#[],by rw [e];simp⟩) (fun m hm=>?_) (fun b u e=>?_) I.bare
 ·obtain⟨f0,f1,f2,f3,f4,f5⟩:=f b hb
  exact⟨f3,f1,f4,f5⟩
 ·obtain⟨o,es,ep,ho,r⟩:=hm
  exact⟨o,es,ep,k _ o (fun z=>(f _ z).2.1 rfl) ho,r⟩
 ·refine (I.aZ b u e).rm (fun c v hc q=>k c v ?_ q) (fun _ q=>q) fun _ _ q=>q
  rcases hc with z | z
  ·rw [z];exact nit b u e
  ·exact nit c _ z
def Ci (K:Gh)(a b:Addr):It :=
 ⟨fun i H=>∃xs ys x y,ay K H a xs/\ay K H b ys/\xs[i]?=some x/\ys[i]?=some y,
  fun i H v H'=>∃t x y,v=.ref t/\H t=none/\H' = upd H t (.tup [x,y])/\∀xs ys,ay K H a xs->ay K H b ys->xs[i]?=some x/\ys[i]?=some y,
  fun i H=>∃xs ys,ay K H a xs/\ay K H b ys/\(xs.length<=i\/ys.length<=i)⟩
theorem Bb {P:Program}{w:World}{K:Gh}{elts:List Expr}{kk:Nat}{pos:Pos}(a b z p q j k:Addr)(D:xn z p q j k a b) :
    Turn P w K (.Tuple elts kk pos) (Ci K a b) [z,p,q,j,k] z (fun i h=>IsZip h z p q .none/\IsPair h p (.ref j) (.ref k)/\(∃u v,IsPair h q u v)/\h.IsTupleIter j a i/\h.IsTupleIter k b i) where
  mem:=by simp
  obj:=fun i h st c hc=>by
    obtain⟨gz,gp,⟨u,v,gq⟩,⟨oj,ej,cj,dj⟩,⟨ok,ek,ck,dk⟩⟩:=st
    simp only [Gu,HW,or_false] at hc
    rcases hc with rfl | rfl | rfl | rfl | rfl
    . exact⟨_,gz,fun v e=>by cases e⟩
    . exact⟨_,gp,fun v e=>by cases e⟩
    . exact⟨_,gq,fun v e=>by cases e⟩
    . exact⟨oj,ej,fun v e=>by rw [dj] at e;cases e⟩
    . exact⟨ok,ek,fun v e=>by rw [dk] at e;cases e⟩
  keep:=fun i h g st kp=>by
    obtain⟨gz,gp,⟨u,v,gq⟩,⟨oj,ej,rj⟩,⟨ok,ek,rk⟩⟩:=st
    exact⟨kp z (by simp) _ gz,kp p (by simp) _ gp,⟨u,v,kp q (by simp) _ gq⟩,⟨oj,kp j (by simp) _ ej,rj⟩,⟨ok,kp k (by simp) _ ek,rk⟩⟩
  item:=by
    intro X hP hw hK hc i pins s Gd H E I hf st hg
    subst hP hw hK
    obtain⟨gz,gp,⟨u,v,gq⟩,gj,gk⟩:=st
    obtain⟨xs,ys,x,y,ha,hb,hx,hy⟩:=hg
    obtain⟨is,ra,pa,_⟩:=I.tuple ha
    obtain⟨js,rb,pb,_⟩:=I.tuple hb
    obtain⟨xv,hxv,rx⟩:=ra.get hx
    obtain⟨yv,hyv,ry⟩:=rb.get hy
    have sz:∀c∈[z,p,q,j,k],c≠s.heap.objs.size:=fun c hc e=>by
      subst e
      simp only [Gu,HW,or_false] at hc
      rcases hc with e | e | e | e | e
      . exact absurd (Gq gz) (by rw [<-e];exact GY _)
      . exact absurd (Gq gp) (by rw [<-e];exact GY _)
      . exact absurd (Gq gq) (by rw [<-e];exact GY _)
      . obtain⟨oj,ej,_⟩:=gj
        exact absurd (Gq ej) (by rw [<-e];exact GY _)
      . obtain⟨ok,ek,_⟩:=gk
        exact absurd (Gq ek) (by rw [<-e];exact GY _)
    refine CT D gz gp gq gj gk (show s.heap.IsTuple a is.toArray from pa) (show s.heap.IsTuple b js.toArray from pb) (x:=xv) (y:=yv) (by simpa using hxv) (by simpa using hyv) fun g a1 a2 a3 a4 a5 a6 hk=>?_
    refine⟨.ref s.heap.objs.size,rfl,wpAny_letOwnedTupleGo_zip a1 fun g' gz' sb=>?_⟩
    have fr:=I.aZ.fresh (a:=s.heap.objs.size) (Gi _)
    have I1:Inv X pins Gd (upd H s.heap.objs.size (.tup [x,y])) { s with heap:=s.heap.push { cls:=.type "tuple",data:=.seq #[xv,yv] },toks:=s.toks } :=
      I.laid (fun _ _ e=>Gs _ e) (Gi _) ⟨by show 2<=sizeLine;decide,[xv,yv],.cons rx (.cons ry .nil),by first | exact IsTup.new _ _ | exact⟨_,Gx _ rfl,rfl,_,rfl,rfl⟩⟩
    have f1:∀c∈[z,p,q,j,k],ke X pins (upd H s.heap.objs.size (.tup [x,y])) c:=fun c hc=>by
      obtain⟨f0,fr'⟩:=hf c hc
      exact⟨by rw [ai (sz c hc)];exact f0,fr'⟩
    have I2:Inv X pins Gd (upd H s.heap.objs.size (.tup [x,y])) { s with heap:=g',toks:=s.toks }:=Inv.xp (s:={ s with heap:=s.heap.push { cls:=.type "tuple",data:=.seq #[xv,yv] },toks:=s.toks }) (fp:=[z,p,q,j,k]) (h':=g') (t':=s.toks) I1 (fun c o hc e=>by
      simp only [Gu,HW,or_false,not_or] at hc
      refine sb.extBut _ _ hc.1 ?_
      rcases Heap.get?_push_cases e with ⟨rfl,rfl⟩ | e
      . exact a5
      . exact hk c o hc.1 hc.2.2.1 hc.2.2.2.1 hc.2.2.2.2 e) f1
    refine⟨.ref s.heap.objs.size,_,I2,rfl,⟨_,x,y,rfl,fr,rfl,fun xs' ys' h1 h2=>?_⟩,⟨gz',sb.extBut _ _ D.pz (hk _ _ D.pz D.pq D.pj D.pk gp),⟨xv,yv,sb.extBut _ _ D.qz a2⟩,a3.extBut sb.extBut D.jz,a4.extBut sb.extBut D.kz⟩,fun c hc=>(f1 c hc).1⟩
    rw [I.mZ h1 ha,I.mZ h2 hb]
    exact⟨hx,hy⟩
  done:=by
    intro X hP hw hK hc i pins s Gd H E I hf st hg
    subst hP hw hK
    obtain⟨gz,gp,⟨u,v,gq⟩,gj,gk⟩:=st
    obtain⟨xs,ys,ha,hb,hl⟩:=hg
    obtain⟨is,ra,pa,_⟩:=I.tuple ha
    obtain⟨js,rb,pb,_⟩:=I.tuple hb
    have la:=ra.length
    have lb:=rb.length
    have he:is.toArray[i]?=none\/js.toArray[i]?=none:=by
      rcases hl with h | h
      . exact .inl (by simp;omega)
      . exact .inr (by simp;omega)
    exact CU (I.ok.hd hc) D gz gp gq gj gk (show s.heap.IsTuple a is.toArray from pa) (show s.heap.IsTuple b js.toArray from pb) he fun g hk=>⟨rfl,I.xp (fp:=[z,p,q,j,k]) (t':=s.toks) (fun c o hc e=>by
      simp only [Gu,HW,or_false,not_or] at hc
      exact hk c o hc.1 hc.2.2.1 hc.2.2.2.1 hc.2.2.2.2 e) hf⟩
  self:=fun _ _ _ _ _ st h=>wpAny_pyIter_zip st.1 h
theorem FZ {N a b:Nat}(ha:a<N)(hb:b<N):xn (N+4:Nat) (N+2:Nat) (N+3:Nat) N (N+1:Nat) a b :=
 have ne:∀{u v:Nat},u<v->¬(u=v):=fun h e=>by omega
 have ne':∀{u v:Nat},v<u->¬(u=v):=fun h e=>by omega
 ⟨ne (by omega),ne (by omega),ne (by omega),ne (by omega),ne (by omega),ne' (by omega),ne' (by omega),ne' (by omega),ne' (by omega),ne (by omega),ne (by omega),ne (by omega),ne (by omega),ne (by omega),ne (by omega),ne (by omega),ne (by omega),ne (by omega)⟩
theorem D7:bootBuiltins "zip" = some (.type "zip"):=by decide +kernel
def FH (K:Gh)(ta:TA):TI:=fun Gd H R=>ta Gd H fun vs H1=>∃a b,vs=[.ref a,.ref b]/\(∃xs,ay K H1 a xs)/\(∃ys,ay K H1 b ys)/\R (Ci K a b) H1
theorem zJ {a b:Expr} {ta:TA} {p pos tp:Pos} {elts:List Expr} {kk:Nat} (hg:Gl X "zip") (hm:X.mg "zip" = none) (ha:PA X [a,b] ta) (hs:starEach [a,b] X.env=[(false,eval a X.env),(false,eval b X.env)]:=by rfl) (hs2:starEach [b] X.env=[(false,eval b X.env)]:=by rfl) :
  PI X (.Tuple elts kk tp) (.Call (.Name "zip" p) [a,b] [] pos) (FH X.K ta):=by
 intro pins s Gd H R I h
 refine Call_ (mY I hg hm D7 (PyProof.Rows.callWith_type1 (bo (ha pos pins s Gd H _ I h) fun us s1 ⟨vs,H1,I1,r1,q1⟩=>?_) (by rw [hs,hs2]) (by rw [hs2];rfl)))
 obtain⟨x,y,e,⟨xs,hx⟩,⟨ys,hy⟩,q⟩:=q1
 subst e
 cases r1 with
 | cons r rr =>
  cases rr with
  | cons r' rr =>
   cases rr
   cases r
   cases r'
   obtain⟨is,rx,px,_⟩:=I1.tuple hx
   obtain⟨js,ry,py,_⟩:=I1.tuple hy
   have lx:x<s1.heap.objs.size:=px.lt
   have ly:y<s1.heap.objs.size:=py.lt
   refine CV (show s1.heap.IsTuple x is.toArray from px) (show s1.heap.IsTuple y js.toArray from py) fun g gz gp gq gj gk up=>?_
   refine wpAny_pyIter_zip gz ?_
   have I2:Inv X pins Gd H1 { s1 with heap:=g }:=I1.kept (t':=s1.toks) up
   refine⟨_,[s1.heap.objs.size+4,s1.heap.objs.size+2,s1.heap.objs.size+3,s1.heap.objs.size,s1.heap.objs.size+1],_,Ci X.K x y,H1,rfl,I2,Bb x y _ _ _ _ _ ?_,⟨gz,gp,⟨_,_,gq⟩,gj,gk⟩,fun c hc=>?_,q⟩
   ·exact FZ lx ly
   ·have le:s1.heap.objs.size<=c:=by
     simp only [Gu,HW,or_false] at hc
     rcases hc with rfl | rfl | rfl | rfl | rfl
     ·exact HX _ _
     ·exact HX _ _
     ·exact HX _ _
     ·exact Gi _
     ·exact HX _ _
    exact I1.rA le (I1.aZ.fresh le)
theorem zK {K:Gh}{a b acc:Addr}{xs ys:List V}{n:Nat}{js:List Nat}{g:TG}{ct:TT}{te:TE}{Gd : St}{H1:Hp}{Q:VK}(Pv:Nat->List V->St->Hp->Prop)(h0:Pv 0 [] (oO n js Gd) (upd H1 acc (.lst [])))
  (hl:∀i zs Ge H,i<=min xs.length ys.length->Pv i zs Ge H->ay K H a xs/\ay K H b ys/\H acc=some (.lst zs)/\zs.length<sizeLine)
  (hs:∀i x y zs Ge H t,xs[i]?=some x->ys[i]?=some y->H t=none->Pv i zs Ge H->g (.ref t) Ge (upd H t (.tup [x,y])) fun τ1 H4=>ct τ1 H4 fun b H5=>if b=true then te τ1 H5 fun v H6=>H6 acc=some (.lst zs)/\Pv (i+1) (zs++[v]) τ1 (upd H6 acc (.lst (zs++[v]))) else Pv (i+1) zs τ1 H5)
  (hd:∀zs Ge H,Pv (min xs.length ys.length) zs Ge H->Q (.ref acc) H) :
  wZ (Ci K a b) n js g ct te acc Gd H1 Q:=by
 refine⟨fun i m zs Ge H=>m=min xs.length ys.length-i/\i<=min xs.length ys.length/\Pv i zs Ge H,⟨min xs.length ys.length,by simp,GK _,h0⟩,?_⟩
 rintro i m zs Ge H ⟨rfl,hi,p⟩
 obtain⟨qa,qb,q2,q3⟩:=hl i zs Ge H hi p
 refine⟨q2,q3,?_⟩
 by_cases hlt:i<min xs.length ys.length
 ·have l1:i<xs.length:=by omega
  have l2:i<ys.length:=by omega
  refine .inr ⟨⟨xs,ys,xs[i],ys[i],qa,qb,by simp [l1],by simp [l2]⟩,Pv (i+1),fun zs' τ' H' p'=>⟨min xs.length ys.length-(i+1),by omega,rfl,hlt,p'⟩,fun v H' y=>?_⟩
  obtain⟨t,x,y,rfl,ht,rfl,h⟩:=y
  obtain⟨h1,h2⟩:=h xs ys qa qb
  exact hs i x y zs Ge H t h1 h2 ht p
 ·have e:i=min xs.length ys.length:=by omega
  subst e
  refine .inl ⟨⟨xs,ys,qa,qb,?_⟩,hd zs Ge H p⟩
  rcases Nat.le_total xs.length ys.length with h | h
  ·exact .inl (by omega)
  ·exact .inr (by omega)
end
structure Bc (K:Gh) (mg:Str->Option Value) (nm:Str) (a:Addr) (D:List (Str×Addr)):Prop where
 tD:mg nm=some (.ref a)
 lk:∃es ep,K.lookup a=some ⟨.type "dict",none,.dict es ep,#[]⟩/\KTD.Rows (fun d v=>v=Value.ref d) es.toList D
section
variable {prog:Program}{w:World}{A:Around}{E:Value->Shared->Prop}{s:Shared}
theorem Bd {a d:Addr}{o:Obj}{es:Array DictEntry}{ep:Nat}{k:Str}{t:Tok}{D:List (Str×Addr)}{Q:Option Value->Shared->Prop}(ho:s.heap.get? a=some o)(hd:o.data=.dict es ep)
  (hr:KTD.Rows (fun d v=>v=Value.ref d) es.toList D) (ha:KTD.datumAt k D=some d) (q:Q (some (.ref d)) { s with toks:=s.toks+1 }):wpAny (model prog w) A (dictGet a (.str k t)) Q E s:=by
 unfold dictGet
 try with_reducible refine Jc ?_
 refine IZ (JC (IZ (KTD.kt_dictFind_strs (s:={ s with toks:=s.toks+1 }) ho hd (by have:=hr.exact;obtain⟨l⟩:=es;simpa using this) ?_)))
 have hq:Q (findBy (fun k v=>v.isStr k) es k) { s with toks:=s.toks+1 }:=by
  obtain⟨v,hv,rfl⟩:=hr.find_some ha
  have e:findBy (fun k v=>v.isStr k) es k=some (.ref d):=by
   rw [<-hv]
   obtain⟨l⟩:=es
   simp [findBy]
  rw [e]
  exact q
 rw [findBy_of_findIdx?] at hq
 cases hi:es.findIdx? fun e=>e.key.isStr k with
 | some i=>rw [hi] at hq;exact IZ (wpAny_dictEntries (s:={ s with toks:=s.toks+1 }) ho hd (I0 hq))
 | none=>rw [hi] at hq;exact I0 hq
theorem Be {a d:Addr} {o:Obj} {es:Array DictEntry} {ep:Nat} {k:Str} {t:Tok} {D:List (Str×Addr)} {Q:Value->Shared->Prop} (ty:s.TypeIs (.ref a) "dict") (ho:s.heap.get? a=some o) (hd:o.data=.dict es ep)
  (hr:KTD.Rows (fun d v=>v=Value.ref d) es.toList D) (ha:KTD.datumAt k D=some d) (q:Q (.ref d) { s with toks:=s.toks+1 }):wpAny (model prog w) A (getItem (.ref a) (.str k t)) Q E s:=by
 unfold getItem
 try with_reducible refine Jc ?_
 refine IZ (JD ty (by decide) (IZ (wpAny_callSpecial?_slot (name:=Str.ofString "__getitem__") ty slot_dict_getitem (Jd slot_dict_getitem ty entry_dict_getitem ?_ (args_dict_getitem _ _)))))
 show wpAny _ _ (dictGet a (.str k t) >>= fun _=>_) _ _ s
 exact IZ (Bd ho hd hr ha (I0 ⟨_,rfl,I0 q⟩))
end
section
variable {X:Cx}
theorem r9 {nm:Str} {a:Addr} {D:List (Str×Addr)} {i:Expr} {p pos:Pos} {ty:TE} (G:Bc X.K X.mg nm a D) (hg:Gl X nm) (hi:PE X i ty) (hs:yb i) (hdb:(nm == ("__debug__" : Str))=false:=by decide) :
  PE X (.Subscript (.Name nm p) i pos) (fun Gd H Q=>ty Gd H fun y H1=>∃x d,y=.str x/\KTD.datumAt x D=some d/\Q (.ref d) H1):=by
 intro pins s Gd H Q I h
 obtain⟨es,ep,hk,hr⟩:=G.lk
 refine rM PySem.F.slot_dict_getitem.lookup hs (bo (iA (v:=.ref a) hg G.tD rfl hdb pins s Gd H (fun x H1=>x=.ref a/\ty Gd H1 fun y H1=>∃x d,y=.str x/\KTD.datumAt x D=some d/\Q (.ref d) H1) I ⟨rfl,h⟩) fun u s1 ⟨x,H1,I1,rx,ex,q1⟩=>?_)
 subst ex
 obtain rfl:u=Value.ref a:=rx
 refine bo (hi pins s1 Gd H1 _ I1 q1) fun iv s2 ⟨y,H2,I2,ry,k,d,ey,hd,q2⟩=>?_
 subst ey
 obtain⟨t,rfl⟩:=(show ∃t,iv=Value.str k t from ry)
 have ho:=I2.jn a _ hk
 exact⟨⟨_,ho,rfl⟩,Be ⟨_,ho,rfl⟩ ho rfl hr hd ⟨.ref d,H2,I2.tok _,rfl,q2⟩⟩
end
def pick (w:Str)(xs:List V)(ks:List Str):List V:=((xs.zip ks).filter fun p=>decide (p.2=w)).map (·.1)
def kO (w:Str)(xs:List V)(ks:List Str)(i:Nat):List V:=(((xs.zip ks).take i).filter fun p=>decide (p.2=w)).map (·.1)
theorem yl {w:Str}{xs:List V}{ks:List Str}{i:Nat}{x:V}{k:Str}(hx:xs[i]?=some x)(hk:ks[i]?=some k):kO w xs ks (i+1)=kO w xs ks i++(if k=w then [x] else []):=by
 have hz:(xs.zip ks)[i]?=some (x,k):=by rw [List.getElem?_zip_eq_some];exact⟨hx,hk⟩
 unfold kO
 rw [G1,hz,Iz,Gz]
 congr 1
 by_cases h:k=w
 ·rw [if_pos h];simp [h]
 ·rw [if_neg h];simp [h]
theorem zL {w:Str}{xs:List V}{ks:List Str}:kO w xs ks (min xs.length (ks.map V.str).length)=pick w xs ks:=by
 unfold kO pick
 rw [Gg,IA (by rw [List.length_zip];exact Gi _)]
theorem zM {w:Str}{xs:List V}{ks:List Str}{i:Nat}:(kO w xs ks i).length<=i:=by
 unfold kO
 rw [Gg]
 exact Gy (HL ..) (by rw [G9];exact Nat.min_le_left ..)
theorem ay.same {K:Gh}{H H':Hp}{a:Addr}{xs:List V}(h:ay K H a xs)(s:ar H H'):ay K H' a xs:=by
 rcases h with h | h
 ·rcases h with h | h
  ·exact .inl (.inl (s _ _ h))
  ·obtain⟨b,hb⟩:=h
   exact .inl (.inr ⟨b,s _ _ hb⟩)
 ·exact .inr h
def oo (K:Gh):Sp:=fun vs H Q _=>∃(t s:Addr) (v0:V) (xs:List V) (ks:List Str) (w:Str),vs=[.ref t,.ref s,.str w]/\H t=some (.tup (v0::xs))/\ay K H s (ks.map V.str)/\xs.length<=1000 /\
 ∀l H',H' l=some (.lst (pick w xs ks))->ar H H'->Q (.ref l) H'
def KTup (K:Gh)(a:Addr)(ks:List Str):Prop:=∃(o:Obj) (its:Array Value) (n:Nat),K.lookup a=some o/\o.cls=.type "tuple" /\ o.data=.seq its n/\its.size<=sizeLine/\Vals (ks.map V.str) its.toList
structure vg (K:Gh) (mg:Str->Option Value) (aE s0 s1 s2 s3:Addr):Prop where
 tab:Bc K mg "END_PARTS" aE [("stop",s0),("go",s1),("less",s2),("is",s3)]
 q0:KTup K s0 []
 q1:KTup K s1 ["piece"]
 q2:KTup K s2 ["name", "number", "piece", "piece"]
 q3:KTup K s3 ["name", "number", "piece", "piece"]
def aN:End->List Nat
 | .stop=>[]
 | .go p=>[p]
 | .cE _ _ _ p q=>[p,q]
def kE:End->List Str
 | .stop=>[]
 | .go _=>["piece"]
 | .cE ..=>["name", "number", "piece", "piece"]
def wE:End->Str
 | .stop => "stop"
 | .go _ => "go"
 | .cE b ..=>wT b
theorem zN (e:End):∃xs,fg e=.str (wE e)::xs/\xs.length<=1000/\pick "piece" xs (kE e)=(aN e).map fun k=>V.int (k:Nat):=by
 cases e with
 | stop=>exact⟨[],rfl,by decide,rfl⟩
 | go p=>exact⟨_,rfl,by show 1<=1000;decide,by simp [pick,kE,aN]⟩
 | cE b x n p q =>
  refine⟨_,rfl,by show 4<=1000;decide,?_⟩
  have h1:¬("name" : Str) = "piece" := by decide +kernel
  have h2:¬("number" : Str) = "piece" := by decide +kernel
  simp [pick,kE,aN,h1,h2]
theorem vg.at_ {K:Gh} {mg:Str->Option Value} {aE s0 s1 s2 s3:Addr} (G:vg K mg aE s0 s1 s2 s3) (e:End):∃s,KTD.datumAt (wE e) [(("stop" : Str),s0),("go",s1),("less",s2),("is",s3)]=some s/\KTup K s (kE e):=by
 have hit:∀{k:Str} {d:Addr} {D:List (Str×Addr)},KTD.datumAt k ((k,d)::D)=some d:=fun {k d D}=>by
  show (if decide (k=k)=true then some d else KTD.datumAt k D)=some d
  rw [if_pos (decide_eq_true rfl)]
 have miss:∀{k x:Str} {d:Addr} {D:List (Str×Addr)} {o:Option Addr},¬k=x->KTD.datumAt k D=o->KTD.datumAt k ((x,d)::D)=o:=fun {k x d D o} h e=>by
  show (if decide (k=x)=true then some d else KTD.datumAt k D)=o
  rw [if_neg (by rw [decide_eq_false h];decide)]
  exact e
 cases e with
 | stop=>exact⟨s0,hit,G.q0⟩
 | go p=>exact⟨s1,miss (show ¬(("go" : Str) = "stop") by decide +kernel) hit,G.q1⟩
 | cE b x n p q =>
  cases b with
  | true=>exact⟨s2,miss (show ¬(("less" : Str) = "stop") by decide +kernel) (miss (show ¬(("less" : Str) = "go") by decide +kernel) hit),G.q2⟩
  | false=>exact⟨s3,miss (show ¬(("is" : Str) = "stop") by decide +kernel) (miss (show ¬(("is" : Str) = "go") by decide +kernel) (miss (show ¬(("is" : Str) = "less") by decide +kernel) hit)),G.q3⟩
def jv:Sp:=fun vs H Q _=>∃(ea:Addr) (e:End),vs=[.ref ea]/\H ea=some (.tup (fg e))/\∀t H',H' t=some (.tup ((aN e).map fun k=>V.int (k:Nat)))->ar H H'->Q (.ref t) H'
end L2
namespace LS
open PySem
def Up (xs:Array Nat):Prop:=∀(i j:Nat) (a b:Nat),i<j->xs[i]?=some a->xs[j]?=some b->a<b
theorem Bf {xs:Array Nat}{j:Nat}(up:Up xs):∀(fuel lo hi:Nat),hi-lo<=fuel->lo<=hi->hi<=xs.size ->
  (∀i a,i<lo->xs[i]?=some a->a<j)->(∀i a,hi<=i->xs[i]?=some a->j<=a) ->
  (∀i a,i<SetTable.below.go xs j fuel lo hi->xs[i]?=some a->a<j)/\(∀i a,SetTable.below.go xs j fuel lo hi<=i->xs[i]?=some a->j<=a)/\SetTable.below.go xs j fuel lo hi<=xs.size:=by
 intro fuel
 induction fuel with
 | zero =>
  intro lo hi h1 h2 h3 h4 h5
  have e:lo=hi:=by omega
  subst e
  unfold SetTable.below.go
  exact⟨h4,h5,h3⟩
 | succ f ih =>
  intro lo hi h1 h2 h3 h4 h5
  unfold SetTable.below.go
  by_cases hl:lo<hi
  ·rw [if_pos hl]
   dsimp only
   have hm:(lo+hi) / 2<hi:=by omega
   have hm2:lo<=(lo+hi) / 2:=by omega
   generalize (lo+hi) / 2=mid at hm hm2
   have hs:mid<xs.size:=by omega
   have hg:xs[mid]?=some xs[mid]:=by simp [hs]
   have hd:xs.getD mid j=xs[mid]:=by simp [Array.getD,hs]
   rw [hd]
   by_cases hc:xs[mid]<j
   ·rw [if_pos hc]
    refine ih (mid+1) hi (by omega) (by omega) h3 (fun i a hi' he=>?_) h5
    by_cases e:i=mid
    ·subst e;rw [hg] at he;cases he;exact hc
    ·have:=up i mid a _ (by omega) he hg;omega
   ·rw [if_neg hc]
    refine ih lo mid (by omega) hm2 (by omega) h4 (fun i a hi' he=>?_)
    by_cases e:i=mid
    ·subst e;rw [hg] at he;cases he;omega
    ·have:=up mid i _ a (by omega) hg he;omega
  ·rw [if_neg hl]
   have e:lo=hi:=by omega
   subst e
   exact⟨h4,h5,h3⟩
theorem pG {xs:Array Nat}{j:Nat}(up:Up xs) :
    (∀i a,i<SetTable.below xs j->xs[i]?=some a->a<j)/\(∀i a,SetTable.below xs j<=i->xs[i]?=some a->j<=a)/\SetTable.below xs j<=xs.size :=
  Bf up xs.size 0 xs.size (by omega) (GK _) (Gi _) (fun _ _ h=>absurd h (Nat.not_lt_zero _)) (fun i a h e=>by
    have:xs[i]?=none:=by simp;omega
    rw [this] at e;cases e)
theorem vh {α : Type}{xs:Array α}{p:Nat}{x:α}(hp:p<=xs.size)(i:Nat) :
  (SetTable.insertAt xs p x)[i]?=if i<p then xs[i]? else if i=p then some x else xs[i-1]?:=by
 unfold SetTable.insertAt
 have h1:(xs.extract 0 p).size=p:=by simp;omega
 rw [Array.getElem?_append]
 have h2:((xs.extract 0 p).push x).size=p+1:=by simp;omega
 rw [h2]
 by_cases a:i<p
 ·rw [if_pos (by omega),if_pos a,Array.getElem?_push,h1,if_neg (by omega)]
  rw [Array.getElem?_extract]
  simp;omega
 ·rw [if_neg a]
  by_cases b:i=p
  ·subst b
   rw [if_pos (by omega),if_pos rfl,Array.getElem?_push,h1,if_pos rfl]
  ·rw [if_neg (by omega),if_neg b]
   rw [Array.getElem?_extract]
   have:p+(i-(p+1))=i-1:=by omega
   rw [this]
   by_cases c:i-1<xs.size
   ·simp;omega
   ·have:xs[i-1]?=none:=by simp;omega
    rw [this];simp
theorem Up.insert {xs:Array Nat}{j:Nat}(up:Up xs)(hn:xs[SetTable.below xs j]?≠some j):Up (SetTable.insertAt xs (SetTable.below xs j) j):=by
 obtain⟨h1,h2,h3⟩:=pG (j:=j) up
 generalize SetTable.below xs j=p at h1 h2 h3 hn
 have h2':∀i a,p<=i->xs[i]?=some a->j<a:=fun i a hi e=>by
  have q:=h2 i a hi e
  by_cases z:i=p
  ·subst z
   rcases Nat.lt_or_ge j a with c | c
   ·exact c
   ·have:a=j:=by omega
    subst this;exact absurd e hn
  ·have hps:p<xs.size:=by
    have:i<xs.size:=by
     rcases Nat.lt_or_ge i xs.size with c | c
     ·exact c
     ·have:xs[i]?=none:=by simp;omega
      rw [this] at e;cases e
    omega
   have e1:xs[p]?=some xs[p]:=by simp [hps]
   have q1:=h2 p _ (Gi _) e1
   have q2:=up p i _ _ (by omega) e1 e
   omega
 intro a b x y hab ha hb
 rw [vh h3] at ha hb
 by_cases c1:a<p
 ·rw [if_pos c1] at ha
  by_cases d1:b<p
  ·rw [if_pos d1] at hb;exact up a b _ _ hab ha hb
  ·rw [if_neg d1] at hb
   by_cases d2:b=p
   ·rw [if_pos d2] at hb;cases hb;exact h1 a _ c1 ha
   ·rw [if_neg d2] at hb
    exact Iw (h1 a _ c1 ha) (h2' (b-1) _ (by omega) hb)
 ·rw [if_neg c1] at ha
  by_cases c2:a=p
  ·rw [if_pos c2] at ha;cases ha
   rw [if_neg (by omega),if_neg (by omega)] at hb
   exact h2' (b-1) _ (by omega) hb
  ·rw [if_neg c2] at ha
   rw [if_neg (by omega),if_neg (by omega)] at hb
   exact up (a-1) (b-1) _ _ (by omega) ha hb
def Rp (t:SetTable):Prop:=t.plain=true->Up t.place
theorem Bg {t:SetTable}{f:Nat->Int}{h:Int}:∀(fuel:Nat) (p:SetTable.Probe) (j:Nat) (d:Option Nat),(∀x,p.dummy=some x->t.place[SetTable.below t.place x]?≠some x) ->
  SetTable.probe.go t f h fuel p=some (.empty j d)->t.place[SetTable.below t.place (d.getD j)]?≠some (d.getD j):=by
 intro fuel
 induction fuel with
 | zero=>intro p j d _ e;unfold SetTable.probe.go at e;cases e
 | succ n ih =>
  intro p j d hd e
  unfold SetTable.probe.go at e
  have adv:∀q:SetTable.Probe,(t.advance q).dummy=q.dummy:=fun q=>by unfold SetTable.advance;split <;> rfl
  cases hs:t.slot p.j with
  | empty =>
   rw [hs] at e
   dsimp only at e
   injection e with e
   injection e with e1 e2
   subst e1;subst e2
   unfold SetTable.slot at hs
   dsimp only at hs
   split at hs
   ·cases hs
   ·rename_i hne
    cases hdm:p.dummy with
    | none=>intro z;exact hne (by rw [show (none:Option Nat).getD p.j=p.j from rfl] at z;simpa using z)
    | some x=>exact hd x hdm
  | dummy =>
   rw [hs] at e
   dsimp only at e
   refine ih _ j d (fun x hx=>?_) e
   rw [adv] at hx
   injection hx with hx
   subst hx
   unfold SetTable.slot at hs
   dsimp only at hs
   split at hs
   ·cases hs
   ·rename_i hne
    intro z;exact hne (by simpa using z)
  | live i =>
   rw [hs] at e
   dsimp only at e
   split at e
   ·cases e
   ·exact ih _ j d (fun x hx=>hd x (by rw [adv] at hx;exact hx)) e
theorem vi {t:SetTable}{h:Int}{j:Nat}{b:Bool}(e:t.freeSlot h=some (j,b)):t.place[SetTable.below t.place j]?≠some j:=by
 unfold SetTable.freeSlot at e
 split at e
 ·rename_i j' d hp
  injection e with e
  injection e with e1 e2
  subst e1
  unfold SetTable.probe at hp
  exact Bg _ _ _ _ (fun x hx=>by cases hx) hp
 ·cases e
theorem Rp.standIn (t:SetTable)(n:Nat):Rp (t.standIn n):=fun h=>by cases h
theorem Rp.layNew {t:SetTable}(r:Rp t)(es:Array (Int×Value))(h:Int)(x:Value):Rp (layNew t es h x).2.1/\(layNew t es h x).2.1.led=t.led:=by
 unfold PySem.layNew
 split
 ·rename_i j b e
  dsimp only
  unfold SetTable.orStandIn
  split
  ·refine⟨fun hp=>?_,rfl⟩
   exact (r hp).insert (vi e)
  ·exact⟨Rp.standIn _ _,rfl⟩
 ·exact⟨Rp.standIn _ _,rfl⟩
theorem Bh (n:Nat)(f:Nat->Option Nat):Up (((GN n).filterMap fun j=>(f j).map fun k=>(j,k)).map (·.1)).toArray:=by
 have hs:Hy (· < ·) (((GN n).filterMap fun j=>(f j).map fun k=>(j,k)).map (·.1)):=by
  have hl:List.Sublist (((GN n).filterMap fun j=>(f j).map fun k=>(j,k)).map (·.1)) (GN n):=by
   generalize GN n=l
   induction l with
   | nil=>exact List.Sublist.refl _
   | cons a l ih =>
    rw [HP]
    cases e:f a with
    | none=>exact ih.cons a
    | some k=>exact ih.cons₂ a
  exact Hy.sublist hl List.pairwise_lt_range
 intro i j a b hij ha hb
 rw [List.getElem?_toArray] at ha hb
 have hi:i<_:=(GQ.mp ha).1
 have hj:j<_:=(GQ.mp hb).1
 have:=List.pairwise_iff_getElem.mp hs i j hi hj hij
 rw [(GQ.mp ha).2,(GQ.mp hb).2] at this
 exact this
theorem Rp.relayAll (t:SetTable)(es:Array (Int×Value))(n:Nat):Rp (relayAll t es n).2.1/\(relayAll t es n).2.1.led=t.led:=by
 unfold PySem.relayAll
 split
 ·rename_i t' order e
  dsimp only
  split
  ·unfold SetTable.relaid SetTable.laid at e
   simp only [bind,Option.bind] at e
   split at e
   ·cases e
   ·rename_i owner _
    injection e with e
    injection e with e1 _
    subst e1
    exact⟨fun _=>Bh _ _,rfl⟩
  ·exact⟨Rp.standIn _ _,rfl⟩
 ·exact⟨Rp.standIn _ _,rfl⟩
theorem ym {xs:Array Nat}(up:Up xs){i a:Nat}(e:xs[i]?=some a):SetTable.below xs (a+1)=i+1:=by
 obtain⟨h1,h2,h3⟩:=pG (j:=a+1) up
 have hi:i<xs.size:=(Array.getElem?_eq_some_iff.mp e).1
 rcases Nat.lt_trichotomy (SetTable.below xs (a+1)) (i+1) with c | c | c
 ·have:=h2 i a (by omega) e;omega
 ·exact c
 ·have hs:i+1<xs.size:=by omega
  have e':xs[i+1]?=some xs[i+1]:=by simp [hs]
  have q1:=h1 (i+1) _ c e'
  have q2:=up i (i+1) _ _ (by omega) e e'
  omega
theorem yn {xs:Array Nat}(up:Up xs):SetTable.below xs 0=0:=by
 obtain⟨h1,h2,h3⟩:=pG (j:=0) up
 rcases Nat.eq_zero_or_pos (SetTable.below xs 0) with c | c
 ·exact c
 ·have e':xs[0]?=some xs[0]:=by simp
  have:=h1 0 _ c e';omega
theorem Up.bK {xs:Array Nat}(h:xs.size<=1):Up xs:=fun i j a b hij ha hb=>by
 have:=(Array.getElem?_eq_some_iff.mp hb).1;omega
open PySem.Spec PyProof.Rows
section
variable {prog:Program}{w:World}{K:Type}[DecidableEq K]{knd:KeyKind prog w K}
variable {A:Around}{E:Value->Shared->Prop}{s:Shared}
def Ent (knd:KeyKind prog w K)(e:Int×Value)(k:K):Prop:=knd.is k e.2=true/\e.1=knd.hash k/\e.2.scannable=true
structure bE (knd:KeyKind prog w K) (h:Heap) (a:Addr) (ks:List K) (o:Obj) (es:Array (Int×Value)) (ep:Nat) (t:SetTable):Prop where
 at_:h.get? a=some o
 ex:o.ExactSet
 data:o.data=.set es ep t
 ents:∃ls:List K,ls.Perm ks/\Paired (Ent knd) es.toList ls
 nd:ks.Nodup
 bK:es.size<scanBound
 fits:t.fits es.size=true
 led:t.led = !(w.params.followText "set-order")
 up:Rp t
def fh (knd:KeyKind prog w K)(h:Heap)(a:Addr)(ks:List K):Prop:=∃o es ep t,bE knd h a ks o es ep t
theorem lq {α β : Type}{F:α->β->Prop}:∀{l l':List α},l.Perm l'->∀{m':List β},Paired F l' m'->∃m,m.Perm m'/\Paired F l m:=by
 intro l l' p
 induction p with
 | nil=>intro m' h;exact⟨m',.refl _,h⟩
 | cons x p ih =>
  intro m' h
  cases h with
  | cons r t=>obtain⟨m,q,e⟩:=ih t;exact⟨_,q.cons _,.cons r e⟩
 | swap x y l =>
  intro m' h
  cases h with
  | cons r t=>cases t with
   | cons r' t'=>exact⟨_,.swap _ _ _,.cons r' (.cons r t')⟩
 | trans p q ih1 ih2 =>
  intro m' h
  obtain⟨m1,a1,b1⟩:=ih2 h
  obtain⟨m2,a2,b2⟩:=ih1 b1
  exact⟨m2,a2.trans a1,b2⟩
theorem jO {α β : Type}{F:α->β->Prop}:∀{l:List α} {m:List β},Paired F l m->(∀x∈l,∃y∈m,F x y)/\(∀y∈m,∃x∈l,F x y)
 | _,_,.nil=>⟨(fun _ h=>nomatch h),(fun _ h=>nomatch h)⟩
 | _,_,.cons r t=>by
  obtain⟨h1,h2⟩:=jO t
  refine⟨fun x hx=>?_,fun y hy=>?_⟩
  ·rcases Gu.mp hx with rfl | hx
   ·exact⟨_,GB ..,r⟩
   ·obtain⟨y,hy,f⟩:=h1 x hx;exact⟨y,GC _ hy,f⟩
  ·rcases Gu.mp hy with rfl | hy
   ·exact⟨_,GB ..,r⟩
   ·obtain⟨x,hx,f⟩:=h2 y hy;exact⟨x,GC _ hx,f⟩
theorem oU {α β : Type}{F:α->β->Prop}{x:α}{y:β}(f:F x y):∀{l:List α} {m:List β},Paired F l m->Paired F (l++[x]) (m++[y])
 | _,_,.nil=>.cons f .nil
 | _,_,.cons r t=>.cons r (oU f t)
variable {a:Addr}{ks:List K}{o:Obj}{es:Array (Int×Value)}{ep:Nat}{t:SetTable}{h h':Heap}
theorem bE.elems (S:bE knd h a ks o es ep t):ElemsOf knd es.toList:=fun e he=>by
 obtain⟨ls,_,p⟩:=S.ents
 obtain⟨k,_,f⟩:=(jO p).1 e he
 exact⟨⟨k,f.1,f.2.1⟩,f.2.2⟩
theorem bE.len (S:bE knd h a ks o es ep t):es.size=ks.length:=by
 obtain⟨ls,q,p⟩:=S.ents
 rw [<-G4,p.length,q.length_eq]
theorem bE.mem (S:bE knd h a ks o es ep t)(k:K):k∈ks↔∃e∈es.toList,knd.is k e.2=true:=by
 obtain⟨ls,q,p⟩:=S.ents
 rw [<-q.mem_iff]
 constructor
 ·intro hk
  obtain⟨e,he,f⟩:=(jO p).2 k hk
  exact⟨e,he,f.1⟩
 ·rintro⟨e,he,f⟩
  obtain⟨k',hk',f'⟩:=(jO p).1 e he
  rw [knd.inj e.2 k k' f f'.1];exact hk'
theorem bE.setOf (S:bE knd h a ks o es ep t):h.SetOf knd a (fun k=>decide (k∈ks)) ks.length :=
 ⟨o,es,ep,t,S.at_,S.ex,S.data,S.elems,fun k=>by rw [decide_eq_true_eq];exact S.mem k,S.bK,S.fits,S.len⟩
theorem bE.keep (S:bE knd h a ks o es ep t)(k:∀o,h.get? a=some o->h'.get? a=some o):bE knd h' a ks o es ep t:={ S with at_:=k _ S.at_ }
theorem fh.keep (S:fh knd h a ks)(k:∀o,h.get? a=some o->h'.get? a=some o):fh knd h' a ks:=let ⟨o,es,ep,t,S⟩:=S;⟨o,es,ep,t,S.keep k⟩
theorem fh.setOf (S:fh knd h a ks):h.SetOf knd a (fun k=>decide (k∈ks)) ks.length:=let ⟨_,_,_,_,S⟩:=S;S.setOf
theorem vj {o:Obj}{es es':Array (Int×Value)}{ep:Nat}{t t':SetTable}(hd:o.data=.set es ep t):Obj.putSet es' t' o={ o with data:=.set es' (ep+1) t' }:=putSet_of es' t' hd
theorem bE.store {es':Array (Int×Value)}{t':SetTable}{ks':List K}(S:bE knd h a ks o es ep t)(he:∃ls:List K,ls.Perm ks'/\Paired (Ent knd) es'.toList ls)(nd:ks'.Nodup)(bK:es'.size<scanBound)
  (fits:t'.fits es'.size=true) (led:t'.led=t.led) (up:Rp t'):bE knd (h.update a (Obj.putSet es' t')) a ks' { o with data:=.set es' (ep+1) t' } es' (ep+1) t' where
 at_:=by
  have q:=Hi (Obj.putSet es' t') S.at_ (by rw [vj S.data];rfl)
  rw [vj S.data] at q
  exact q
 ex:=S.ex
 data:=rfl
 ents:=he
 nd:=nd
 bK:=bK
 fits:=fits
 led:=led.trans S.led
 up:=up
theorem pH {g:Bool->Sem Unit}(hg:∀(b:Bool) (s₁ : Shared) (Q':Unit->Shared->Prop),Q' () s₁->wpAny (model prog w) A (g b) Q' E s₁){es1:Array (Int×Value)}{t2:SetTable}{ks':List K}
  (S:bE knd s.heap a ks o es ep t) (he:∃ls:List K,ls.Perm ks'/\Paired (Ent knd) es1.toList ls) (nd:ks'.Nodup) (bK:es1.size<scanBound) (fits:t2.fits es1.size=true) (led:t2.led=t.led) (up:Rp t2) {wd:Bool}
  {R:Option Bool->Shared->Prop} (q:∀h',GX a s.heap h'->fh knd h' a ks'->R (some true) { s with heap:=h' }) :
  wpAny (model prog w) A (storeSet a es1 t2 >>= fun _=>if (!wd&&t2.tooFull)=true then g (relayAll t2 es1 (SetTable.grown es1.size)).2.2 >>= fun _ =>
   storeSet a (relayAll t2 es1 (SetTable.grown es1.size)).1 (relayAll t2 es1 (SetTable.grown es1.size)).2.1 >>= fun _=>pure (some true) else pure (some true)) R E s:=by
 refine IZ (wpAny_storeSet_of S.at_ S.data ?_ (fits_of_scanBound bK))
 have S1:=S.store he nd bK fits led up
 have b1:=GX.update s.heap a (Obj.putSet es1 t2)
 by_cases hc:(!wd&&t2.tooFull)=true
 ·rw [if_pos hc]
  have p1:=relayAll_perm t2 es1 (SetTable.grown es1.size)
  have p2:=relayAll_fits t2 es1 (SetTable.grown es1.size)
  have p3:=Rp.relayAll t2 es1 (SetTable.grown es1.size)
  generalize relayAll t2 es1 (SetTable.grown es1.size)=R3 at p1 p2 p3
  obtain⟨es3,t3,gv⟩:=R3
  obtain⟨ls,l1,l2⟩:=he
  obtain⟨ls3,l3,l4⟩:=lq p1 l2
  have z:es3.size=es1.size:=by rw [<-G4,p1.length_eq,G4]
  have few3:es3.size<scanBound:=by rw [z];exact bK
  refine IZ (hg _ _ _ ?_)
  refine IZ (wpAny_storeSet_of S1.at_ S1.data ?_ (fits_of_scanBound few3))
  exact I0 (q _ (b1.trans (GX.update _ a _)) ⟨_,_,_,_,S1.store ⟨ls3,l3.trans l1,l4⟩ nd few3 p2 p3.2 p3.1⟩)
 ·rw [if_neg hc]
  exact I0 (q _ b1 ⟨_,_,_,_,S1⟩)
theorem yo {k:K}{x:Value}{Q:Bool->Shared->Prop}(hk:knd.is k x=true)(hsc:x.scannable=true)(S:fh knd s.heap a ks)(room:ks.length+1<scanBound)
  (q:∀h',GX a s.heap h'->fh knd h' a (if k∈ks then ks else ks++[k])->Q (!decide (k∈ks)) { s with heap:=h' }) :
  wpAny (model prog w) A (setAddHashed a x (knd.hash k)) Q E s:=by
 obtain⟨o,es,ep,t,S⟩:=S
 have few1:es.size+1<scanBound:=by rw [S.len];exact room
 unfold setAddHashed setAddHashedIn
 refine Jc (IZ (Jr S.at_ S.data S.fits ?_))
 dsimp only
 rw [byScan_of hsc S.bK S.elems]
 simp only [↓reduceIte]
 unfold setAddByScan
 refine IZ (IZ (Ji ?_))
 refine IZ (wpAny_setScan_of hk S.at_ S.data S.fits S.elems ?_)
 cases hr:List.findIdx? (fun e=>knd.is k e.2) es.toList with
 | some j =>
  obtain⟨hj,hpj,_⟩:=List.findIdx?_eq_some_iff_getElem.mp hr
  have hin:k∈ks:=(S.mem k).mpr ⟨es.toList[j],Hz hj,hpj⟩
  refine I0 (I0 ?_)
  have:=q s.heap (GX.refl a s.heap) (by rw [if_pos hin];exact⟨o,es,ep,t,S⟩)
  rw [decide_eq_true hin] at this
  exact this
 | none =>
  have hin:¬k∈ks:=fun z=>by
   obtain⟨e,he,hp⟩:=(S.mem k).mp z
   have:=List.findIdx?_eq_none_iff.mp hr e he
   rw [hp] at this;exact Bool.noConfusion this
  rw [if_neg hin,decide_eq_false hin] at q
  have p1:=layNew_perm t es (knd.hash k) x
  have p2:=layNew_fits t es (knd.hash k) x
  have p3:=S.up.layNew es (knd.hash k) x
  dsimp only
  generalize layNew t es (knd.hash k) x=L at p1 p2 p3 ⊢
  obtain⟨es1,t1,wd,gv⟩:=L
  dsimp only at p1 p2 p3 ⊢
  rw [Array.toList_push] at p1
  have hE:∃ls:List K,ls.Perm (ks++[k])/\Paired (Ent knd) es1.toList ls:=by
   obtain⟨ls,l1,l2⟩:=S.ents
   obtain⟨m,m1,m2⟩:=lq p1 (oU (F:=Ent knd) (x:=(knd.hash k,x)) (y:=k) ⟨hk,rfl,hsc⟩ l2)
   exact⟨m,m1.trans (l1.append_right _),m2⟩
  have nd1:(ks++[k]).Nodup:=by
   rw [Hv]
   exact⟨S.nd,by simp,fun y hy z hz e=>hin (by rw [Gp] at hz;rw [<-hz,<-e];exact hy)⟩
  have few2:es1.size<scanBound:=by rw [<-G4,p1.length_eq,Gr,G4];simpa using few1
  have gw:∀(b:Bool) (s₁ : Shared) (Q':Unit->Shared->Prop),Q' () s₁->wpAny (model prog w) A (match b with | true=>rule "set.scan.the-table-gave-way" | false=>pure ()) Q' E s₁:=fun b s₁ Q' hq=>by
   cases b
   ·exact I0 hq
   ·exact Ji hq
  refine IZ (gw _ _ _ ?_)
  by_cases hp:t1.plain=true
  ·rw [if_pos hp]
   refine IZ ?_
   rw [hashByValue_scannable 8 hsc]
   refine I0 ?_
   by_cases hv:plainKind x=true
   ·rw [if_pos hv]
    exact pH gw S hE nd1 few2 p2 p3.2 p3.1 fun h' b Sk=>I0 (q h' b Sk)
   ·rw [if_neg hv]
    exact pH gw S hE nd1 few2 (SetTable.fits_plain_off p2) p3.2 (fun z=>by cases z) fun h' b Sk=>I0 (q h' b Sk)
  ·rw [if_neg hp]
   refine IZ (I0 ?_)
   rw [if_pos rfl]
   exact pH gw S hE nd1 few2 p2 p3.2 p3.1 fun h' b Sk=>I0 (q h' b Sk)
theorem nF {led:Bool} (hl:led = !(w.params.followText "set-order")) (at_:h.get? a=some { cls:=.type "set",dict:=none,data:=.set #[] 0 (.fresh 0 0 led) }):fh knd h a [] :=
 ⟨_,#[],0,_,at_,⟨rfl,rfl,rfl⟩,rfl,⟨[],.refl _,.nil⟩,HB,by decide,by rfl,hl,fun _=>Up.bK (GK _)⟩
end
theorem mq {α : Type}:∀(l:List α) (i:Nat) (h:i<l.length),(l[i]::l.eraseIdx i).Perm l
 | x::l,0,_=>.refl _
 | x::l,i+1,h=>by
  have hi:i<l.length:=by simpa using h
  have ih:=mq l i hi
  show (l[i]::x::l.eraseIdx i).Perm (x::l)
  exact (List.Perm.swap x _ _).trans (ih.cons x)
theorem zO {α : Type}(f:Nat->Nat):∀(n k:Nat) (l:List α) (out:Array α),l.length=n->(pickOrder.go f n k l out).toList.Perm (out.toList++l):=by
 intro n
 induction n with
 | zero =>
  intro k l out hl
  have:l=[]:=IP.mp hl
  subst this
  unfold pickOrder.go
  simp
 | succ n ih =>
  intro k l out hl
  unfold pickOrder.go
  have hlt:f k % l.length<l.length:=Nat.mod_lt _ (by omega)
  rw [Hw hlt]
  dsimp only
  refine (ih _ _ _ (by rw [List.length_eraseIdx_of_lt hlt];omega)).trans ?_
  rw [Array.toList_push,Ha]
  refine List.Perm.append_left _ ?_
  exact mq _ _ hlt
theorem i8 {α : Type}(f:Nat->Nat)(xs:Array α):(pickOrder f xs).toList.Perm xs.toList:=by
 unfold pickOrder
 have:=zO f xs.size 0 xs.toList #[] (by simp)
 simpa using this
section
variable {prog:Program}{w:World}{A:Around}{E:Value->Shared->Prop}{s:Shared}
theorem oq {Q:Bool->Shared->Prop} (q:Q (w.params.followText "set-order") s):wpAny (model prog w) A setsByText Q E s:=by
 unfold setsByText
 exact IZ (Jz (I0 q))
theorem CW {src:Source}{n:Nat}{Q:Nat->Shared->Prop}(hn:n≠0)(q:∀(i:Nat) (d:_),i<n->Q i { s with drawn:=d }):wpAny (model prog w) A (choose src n) Q E s:=by
 intro Γ p hΓ
 show Sem.wp _ _ (.choose src n .pure) _ _ _ _
 rw [Sem.wp_choose]
 exact⟨hn,q _ _ (Nat.mod_lt _ (Nat.pos_of_ne_zero hn))⟩
theorem EO:∀(n:Nat) (xs:List Nat) (s:Shared) {Q:List Nat->Shared->Prop},xs.length=n->(∀(ys:List Nat) (d:_),ys.Perm xs->Q ys { s with drawn:=d })->wpAny (model prog w) A (drawOrder n xs) Q E s:=by
 intro n
 induction n with
 | zero =>
  intro xs s Q hl q
  have:xs=[]:=IP.mp hl
  subst this
  unfold drawOrder
  exact I0 (q [] s.drawn (.refl _))
 | succ n ih =>
  intro xs s Q hl q
  cases xs with
  | nil=>cases hl
  | cons x0 xs =>
   unfold drawOrder
   refine IZ (CW (by simp) fun i d hi=>?_)
   rw [Hw hi]
   dsimp only
   refine IZ (ih _ _ (by rw [List.length_eraseIdx_of_lt hi];omega) fun ys d' hp=>?_)
   refine I0 (q _ d' ?_)
   exact (hp.cons _).trans (mq _ _ hi)
end
section
variable {prog:Program}{w:World}{K:Type}[DecidableEq K]{knd:KeyKind prog w K}
variable {A:Around}{E:Value->Shared->Prop}{s:Shared}{a:Addr}{ks:List K}{o:Obj}{es:Array (Int×Value)}{ep:Nat}{t:SetTable}
theorem zP {slot i:Nat} {Q:Option (Value×Nat)->Shared->Prop} (S:bE knd s.heap a ks o es ep t) (hb:w.params.followText "set-order" = true)
  (q:Q (((pickOrder (w.params.setOrder a ep) es)[i]?).map fun e=>(e.2,slot)) s):wpAny (model prog w) A (setNext a slot i ep) Q E s:=by
 unfold setNext
 refine IZ (Jr S.at_ S.data S.fits ?_)
 dsimp only
 refine IZ (oq ?_)
 rw [hb,if_pos rfl]
 rw [if_neg (by simp)]
 unfold setWalk
 refine IZ (IZ (Jr S.at_ S.data S.fits ?_))
 dsimp only
 refine IZ (oq ?_)
 rw [hb,if_pos rfl]
 exact IZ (Jz (I0 (I0 q)))
theorem zQ {slot i:Nat} {Q:Option (Value×Nat)->Shared->Prop} (S:bE knd s.heap a ks o es ep t) (hb:w.params.followText "set-order" = false) (hd:t.plain=true\/es.size<=1) (hs:SetTable.below t.place slot=i)
  (q:Q (match es[i]?,t.place[i]? with | some (_,x),some j=>some (x,j+1) | _,_=>none) s):wpAny (model prog w) A (setNext a slot i ep) Q E s:=by
 unfold setNext
 refine IZ (Jr S.at_ S.data S.fits ?_)
 dsimp only
 refine IZ (oq ?_)
 rw [hb,if_neg GR]
 refine JA (fun h=>absurd (show (!t.plain&&decide (es.size > 1))=true from h) ?_) (fun _=>?_)
 ·rcases hd with h | h
  ·rw [h];simp
  ·rw [show decide (es.size > 1)=false by simp;omega];simp
 have hl:t.led=true:=by rw [S.led,hb];rfl
 refine IZ ?_
 show wpAny _ _ (if (!t.led&&!es.isEmpty)=true then unsupported "set:maker-not-led" else pure ()) _ _ s
 rw [hl,if_neg (by simp)]
 refine I0 ?_
 rw [hs]
 exact I0 q
theorem D8 {i:Nat}{e:Int×Value}{Q:Value->Shared->Prop}(S:bE knd s.heap a ks o es ep t)(he:es[i]?=some e)(q:Q e.2 s):wpAny (model prog w) A (setNextDrawn a i ep) Q E s:=by
 unfold setNextDrawn
 refine IZ (Jr S.at_ S.data S.fits ?_)
 dsimp only
 rw [if_neg (by simp)]
 rw [he]
 exact I0 q
theorem slot_next:Slot "set_iterator" "__next__" "set_iterator.__next__" :=
  Slot.of (owner := "set_iterator") (n := "__next__")
    (by rw [typeLookup_type,builtinLookup_eq_fast]
        kernel_rfl)
    (by decide +kernel)
    (by decide +kernel)
    (by decide +kernel)
    (by first
      | exact .inl (by decide +kernel)
      | exact .inr (by decide +kernel))
    (by rw [isSubtype_type]
        kernel_rfl)
theorem entry_next:entryFor table "set_iterator.__next__" = some Builtin.«set_iterator.__next__» :=
 entryFor_of_tree (by kernel_rfl)
theorem tE:Manifest.owners.lookup (String.ofList ['r','o','t','a','r','e','t','i','_','t','e','s'].reverse)=some Manifest.sig_set_iterator:=by
 kernel_rfl
theorem args_next (v:Value):argsOk "set_iterator.__next__" ⟨[v],[]⟩:=by
 unfold argsOk
 rw [signature?_of (id := "set_iterator.__next__") (n:=['_','_','t','x','e','n','_','_']) (o:=['r','o','t','a','r','e','t','i','_','t','e','s'])
  (by kernel_rfl) tE]
 kernel_rfl
end
def fT (h:Heap)(I:Addr)(first:Value)(i:Nat)(a:Addr)(n ep:Nat):Prop :=
 ∃oI,h.get? I=some oI/\oI.cls=.type "set_iterator" /\ oI.data=.fields #[first,.int i 0,.ref a,.int n 0,.int ep 0]
theorem fT.type {s:Shared} {I:Addr} {first:Value} {i:Nat} {a:Addr} {n ep:Nat} (h:fT s.heap I first i a n ep):s.TypeIs (.ref I) "set_iterator" := let ⟨o,e,c,_⟩:=h;⟨o,e,c⟩
theorem fT.keep {h h':Heap}{I:Addr}{first:Value}{i:Nat}{a:Addr}{n ep:Nat}(x:fT h I first i a n ep)(k:∀o,h.get? I=some o->h'.get? I=some o):fT h' I first i a n ep :=
 let ⟨o,e,c⟩:=x;⟨o,k _ e,c⟩
section
variable {prog:Program}{w:World}{K:Type}[DecidableEq K]{knd:KeyKind prog w K}
variable {A:Around}{E:Value->Shared->Prop}{s:Shared}{a I:Addr}{ks:List K}{o:Obj}{es:Array (Int×Value)}{ep:Nat}{t:SetTable}
theorem vk {slot nx i:Nat}{x:Value}{Q:Option Value->Shared->Prop}(hit:fT s.heap I (.int slot 0) i a es.size ep)(S:bE knd s.heap a ks o es ep t)
  (hn:∀(A:Around) (E:Value->Shared->Prop) (Q:Option (Value×Nat)->Shared->Prop),Q (some (x,nx)) s->wpAny (model prog w) A (setNext a slot i ep) Q E s)
  (q:∀h',fT h' I (.int nx 0) (i+1) a es.size ep->GX I s.heap h'->Q (some x) { s with heap:=h' }):wpAny (model prog w) A (pyNext (.ref I)) Q E s:=by
 obtain⟨oI,ho,hc,hd⟩:=id hit
 unfold pyNext
 refine IZ (Jn (wpAny_callSpecial?_slot (name:=Str.ofString "__next__") hit.type slot_next (Jd slot_next hit.type entry_next ?_ (args_next _))))
 unfold Builtin.«set_iterator.__next__»
 refine IZ (I0 ?_)
 refine IZ (JB ho hd ?_)
 dsimp only
 refine IZ (Ju S.at_ S.data S.fits ?_)
 rw [if_neg (by simp)]
 simp only [Hs]
 refine IZ (hn _ _ _ ?_)
 dsimp only
 refine IZ (Jk ho hd (by simp) ?_)
 have d1:(Obj.mapFields (·.setIfInBounds 0 (rawInt (nx:Int))) oI).data=.fields #[.int nx 0,.int i 0,.ref a,.int es.size 0,.int ep 0]:=by rw [Obj.data_mapFields hd];simp [rawInt]
 have g1:=Hi (Obj.mapFields (·.setIfInBounds 0 (rawInt (nx:Int)))) ho (Obj.isFreed_of_fields (Obj.data_mapFields hd _))
 refine IZ (Jk g1 d1 (by simp) ?_)
 refine I0 ⟨_,rfl,I0 (q _ ⟨_,Hi _ g1 (Obj.isFreed_of_fields (Obj.data_mapFields d1 _)),?_,?_⟩ ((GX.update ..).trans (GX.update ..)))⟩
 ·exact (Obj.cls_mapFields ..).trans ((Obj.cls_mapFields ..).trans hc)
 ·rw [Obj.data_mapFields d1];simp [rawInt]
theorem oV {Q:Option Value->Shared->Prop}{s0:Shared}(hh:A.handled=none)(hk:∀b o,b≠I->s0.heap.get? b=some o->s.heap.get? b=some o)
  (q:∀h',(∀b o,b≠I->s0.heap.get? b=some o->h'.get? b=some o)->Q none { s with heap:=h' }) :
  wpAny (model prog w) A.in1 (newExc (.type "StopIteration") [] >>= fun e=>(raiseNew e:Sem Fin)) (fun _ _=>False)
   (fun e s'=>wpAny (model prog w) A (isInstance e (.type "StopIteration") >>= fun b=>if b=true then pure none else throw e) Q E s') s:=by
 refine IZ ?_
 simp only [newExc,newTuple]
 refine IZ (Je ?_ (by size_fits))
 refine IZ (m:=firstArgMember _ _) (wpAny_of_eq (a:=Value.none) (by first | rfl | (simp only [firstArgMember];rfl)) ?_)
 refine Je ?_ (by size_fits)
 simp only [raiseNew]
 refine IZ (wpAny_handled ?_)
 rw [show A.in1.handled=none from hh]
 refine IZ (I0 (wpAny_throw ?_))
 refine IZ (Jt (T := "StopIteration") (b:=true) ⟨_,Gx _ rfl,rfl⟩ isSubtype_stop ?_)
 exact I0 (q _ fun b o hb e=>Gs _ (Gs _ (hk b o hb e)))
theorem xq {slot i:Nat}{Q:Option Value->Shared->Prop}(hh:A.handled=none)(hit:fT s.heap I (.int slot 0) i a es.size ep)(S:bE knd s.heap a ks o es ep t)
  (hn:∀(A:Around) (E:Value->Shared->Prop) (Q:Option (Value×Nat)->Shared->Prop),Q none s->wpAny (model prog w) A (setNext a slot i ep) Q E s)
  (q:∀h',(∀b o,b≠I->s.heap.get? b=some o->h'.get? b=some o)->Q none { s with heap:=h' }):wpAny (model prog w) A (pyNext (.ref I)) Q E s:=by
 obtain⟨oI,ho,hc,hd⟩:=id hit
 unfold pyNext
 refine IZ (Jn (wpAny_callSpecial?_slot (name:=Str.ofString "__next__") hit.type slot_next (Jd slot_next hit.type entry_next ?_ (args_next _))))
 unfold Builtin.«set_iterator.__next__»
 refine IZ (I0 ?_)
 refine IZ (JB ho hd ?_)
 dsimp only
 refine IZ (Ju S.at_ S.data S.fits ?_)
 rw [if_neg (by simp)]
 simp only [Hs]
 refine IZ (hn _ _ _ ?_)
 dsimp only
 refine IZ (Jk ho hd (by simp) ?_)
 refine Ja (oV (I:=I) (s0:=s) (E:=E) (Q:=Q) hh (fun b o hb e=>(Hj _ _ (Ne.symm hb)).trans e) fun h' k=>q h' k) (fun _ _ z=>z.elim) fun e s' z=>z
theorem Bi {T:Addr}{i k:Nat}{oT:Obj}{its:Array Value}{c:Nat}{x:Int×Value}{Q:Option Value->Shared->Prop}(hit:fT s.heap I (.ref T) i a es.size ep)(S:bE knd s.heap a ks o es ep t)
  (hT:s.heap.get? T=some oT) (dT:oT.data=.seq its c) (hk:its[i]?=some (.int k 0)) (hx:es[k]?=some x)
  (q:∀h',fT h' I (.ref T) (i+1) a es.size ep->GX I s.heap h'->Q (some x.2) { s with heap:=h' }):wpAny (model prog w) A (pyNext (.ref I)) Q E s:=by
 obtain⟨oI,ho,hc,hd⟩:=id hit
 unfold pyNext
 refine IZ (Jn (wpAny_callSpecial?_slot (name:=Str.ofString "__next__") hit.type slot_next (Jd slot_next hit.type entry_next ?_ (args_next _))))
 unfold Builtin.«set_iterator.__next__»
 refine IZ (I0 ?_)
 refine IZ (JB ho hd ?_)
 dsimp only
 refine IZ (Ju S.at_ S.data S.fits ?_)
 rw [if_neg (by simp)]
 refine IZ (Jg hT dT ?_)
 dsimp only
 simp only [Hs]
 rw [hk]
 dsimp only
 simp only [Hs]
 refine IZ (D8 S hx ?_)
 refine IZ (Jk ho hd (by simp) ?_)
 refine I0 ⟨_,rfl,I0 (q _ ⟨_,Hi _ ho (Obj.isFreed_of_fields (Obj.data_mapFields hd _)),?_,?_⟩ (GX.update ..))⟩
 ·exact (Obj.cls_mapFields ..).trans hc
 ·rw [Obj.data_mapFields hd];simp [rawInt]
theorem CY {T:Addr}{i:Nat}{oT:Obj}{its:Array Value}{c:Nat}{Q:Option Value->Shared->Prop}(hh:A.handled=none)(hit:fT s.heap I (.ref T) i a es.size ep)(S:bE knd s.heap a ks o es ep t)
  (hT:s.heap.get? T=some oT) (dT:oT.data=.seq its c) (hk:its[i]?=none)
  (q:∀h',(∀b o,b≠I->s.heap.get? b=some o->h'.get? b=some o)->Q none { s with heap:=h' }):wpAny (model prog w) A (pyNext (.ref I)) Q E s:=by
 obtain⟨oI,ho,hc,hd⟩:=id hit
 unfold pyNext
 refine IZ (Jn (wpAny_callSpecial?_slot (name:=Str.ofString "__next__") hit.type slot_next (Jd slot_next hit.type entry_next ?_ (args_next _))))
 unfold Builtin.«set_iterator.__next__»
 refine IZ (I0 ?_)
 refine IZ (JB ho hd ?_)
 dsimp only
 refine IZ (Ju S.at_ S.data S.fits ?_)
 rw [if_neg (by simp)]
 refine IZ (Jg hT dT ?_)
 dsimp only
 simp only [Hs]
 rw [hk]
 dsimp only
 refine IZ (Jk ho hd (by simp) ?_)
 have d1:(Obj.mapFields (·.setIfInBounds 0 (rawInt 0)) oI).data=.fields #[.int 0 0,.int i 0,.ref a,.int es.size 0,.int ep 0]:=by rw [Obj.data_mapFields hd];simp [rawInt]
 have g1:=Hi (Obj.mapFields (·.setIfInBounds 0 (rawInt 0))) ho (Obj.isFreed_of_fields (Obj.data_mapFields hd _))
 refine IZ (Jk g1 d1 (by simp) ?_)
 refine Ja (oV (I:=I) (s0:=s) (E:=E) (Q:=Q) hh (fun b o hb e=>(Hj _ _ (Ne.symm hb)).trans ((Hj _ _ (Ne.symm hb)).trans e)) fun h' k=>q h' k) (fun _ _ z=>z.elim) fun e s' z=>z
theorem qF:Slot "set_iterator" "__iter__" "set_iterator.__iter__" :=
  Slot.of (owner := "set_iterator") (n := "__iter__")
    (by rw [typeLookup_type,builtinLookup_eq_fast]
        kernel_rfl)
    (by decide +kernel)
    (by decide +kernel)
    (by decide +kernel)
    (by first
      | exact .inl (by decide +kernel)
      | exact .inr (by decide +kernel))
    (by rw [isSubtype_type]
        kernel_rfl)
theorem v8:entryFor table "set_iterator.__iter__" = some Builtin.«dict_keyiterator.__iter__» :=
 entryFor_alias (id' := "dict_keyiterator.__iter__")
  (by kernel_rfl) rfl
  (by decide +kernel)
  (by kernel_rfl)
theorem yq (v:Value):argsOk "set_iterator.__iter__" ⟨[v],[]⟩:=by
 unfold argsOk
 rw [signature?_of (id := "set_iterator.__iter__") (n:=['_','_','r','e','t','i','_','_']) (o:=['r','o','t','a','r','e','t','i','_','t','e','s'])
  (by kernel_rfl) tE]
 kernel_rfl
theorem nG {first:Value}{i:Nat}{Q:Value->Shared->Prop}{n:Nat}(hit:fT s.heap I first i a n ep)(q:Q (.ref I) s):wpAny (model prog w) A (pyIter (.ref I)) Q E s:=by
 refine wpAny_pyIter_slot hit.type qF (Jd qF hit.type v8 ?_ (yq _))
 show wpAny _ _ (ret (.ref I)) _ _ s
 exact I0 ⟨_,rfl, "set_iterator",_,hit.type,slot_next.lookup,q⟩
theorem D9 (hh:A.handled=none) (hI:a≠I) (hb:w.params.followText "set-order" = true) (nd:True) :
  Walks prog w A I [I,a] [I] es.size (fun i v=>∃e,(pickOrder (w.params.setOrder a ep) es)[i]?=some e/\e.2=v) (fun i h=>fT h I (.int 0 0) i a es.size ep/\bE knd h a ks o es ep t) where
 sub:=fun b hb=>by simp at hb;simp [hb]
 frame:=fun _ _ _ st k=>⟨st.1.keep fun o e=>k I (by simp) o e,st.2.keep fun o e=>k a (by simp) o e⟩
 item:=fun i s Q E hi st q=>by
  have z:(pickOrder (w.params.setOrder a ep) es).size=es.size:=by have:=(i8 (w.params.setOrder a ep) es).length_eq;simpa using this
  have g:(pickOrder (w.params.setOrder a ep) es)[i]?=some ((pickOrder (w.params.setOrder a ep) es)[i]'(by omega)):=by simp
  refine vk (slot:=0) (nx:=0) st.1 st.2 (fun A E Q h=>zP st.2 hb (by rw [g];exact h)) fun h' hit' sb=>?_
  exact q _ h' s.toks ⟨_,g,rfl⟩ ⟨hit',st.2.keep fun o e=>sb.extBut a o hI e⟩ fun b o hb e=>sb.extBut b o (fun z=>hb (by simp [z])) e
 done:=fun s Q E st q=>by
  have z:(pickOrder (w.params.setOrder a ep) es).size=es.size:=by have:=(i8 (w.params.setOrder a ep) es).length_eq;simpa using this
  refine xq (slot:=0) hh st.1 st.2 (fun A E Q h=>zP st.2 hb (by rw [Array.getElem?_eq_none (by omega)];exact h)) fun h' k=>?_
  exact q h' s.toks fun b o hb e=>k b o (fun z=>hb (by simp [z])) e
 self:=fun _ _ _ _ st q=>nG st.1 q
theorem pI {α : Type}{es:Array α}:∀{ys:List Nat},(∀k∈ys,k<es.size)->∀i:Nat,(ys.filterMap fun k=>es[k]?)[i]?=(ys[i]?).bind fun k=>es[k]?
 | [],_,i=>by simp
 | y::ys,h,i=>by
  have hy:es[y]?=some (es[y]'(h y (GB ..))):=by simp
  rw [HP,hy]
  cases i with
  | zero=>simp
  | succ i =>
   have:=pI (ys:=ys) (fun k hk=>h k (GC _ hk)) i
   simpa using this
def qG (t:SetTable):Nat->Nat
 | 0=>0
 | i+1=>t.place.getD i 0+1
theorem qH {t:SetTable}(up:Up t.place){i:Nat}(h:i<=t.place.size):SetTable.below t.place (qG t i)=i:=by
 cases i with
 | zero=>exact yn up
 | succ i =>
  have hi:i<t.place.size:=by omega
  have e:t.place[i]?=some (t.place.getD i 0):=by simp [Array.getD,hi]
  exact ym up e
theorem Ea (hh:A.handled=none) (hI:a≠I) (hb:w.params.followText "set-order" = false) (hd:t.plain=true\/es.size<=1) (hf:t.fits es.size=true) (hr:Rp t) :
  Walks prog w A I [I,a] [I] es.size (fun i v=>∃e,es[i]?=some e/\e.2=v) (fun i h=>fT h I (.int (qG t i) 0) i a es.size ep/\bE knd h a ks o es ep t) where
 sub:=fun b hb=>by simp at hb;simp [hb]
 frame:=fun _ _ _ st k=>⟨st.1.keep fun o e=>k I (by simp) o e,st.2.keep fun o e=>k a (by simp) o e⟩
 item:=fun i s Q E hi st q=>by
  have z:t.place.size=es.size:=by simp only [SetTable.fits,G5,beq_iff_eq] at hf;exact hf.1
  have up:Up t.place:=by
   rcases hd with c | c
   ·exact hr c
   ·exact Up.bK (by omega)
  have g:es[i]?=some es[i]:=by simp [hi]
  have gp:t.place[i]?=some (t.place.getD i 0):=by simp [Array.getD,z,hi]
  refine vk (slot:=qG t i) (nx:=qG t (i+1)) (x:=es[i].2) st.1 st.2 (fun A E Q h=>zQ st.2 hb hd (qH up (by omega)) (by rw [g,gp];exact h)) fun h' hit' sb=>?_
  exact q _ h' s.toks ⟨_,g,rfl⟩ ⟨hit',st.2.keep fun o e=>sb.extBut a o hI e⟩ fun b o hb e=>sb.extBut b o (fun z=>hb (by simp [z])) e
 done:=fun s Q E st q=>by
  have z:t.place.size=es.size:=by simp only [SetTable.fits,G5,beq_iff_eq] at hf;exact hf.1
  have up:Up t.place:=by
   rcases hd with c | c
   ·exact hr c
   ·exact Up.bK (by omega)
  refine xq (slot:=qG t es.size) hh st.1 st.2 (fun A E Q h=>zQ st.2 hb hd (qH up (by omega)) (by rw [Array.getElem?_eq_none (Gi _)];exact h)) fun h' k=>?_
  exact q h' s.toks fun b o hb e=>k b o (fun z=>hb (by simp [z])) e
 self:=fun _ _ _ _ st q=>nG st.1 q
theorem Eb {T:Addr}{oT:Obj}{ys:List Nat}(hh:A.handled=none)(hI:a≠I)(hT:T≠I)(dT:oT.data=.seq (ys.map fun (i:Nat)=>rawInt i).toArray 0)(hp:ys.Perm (GN es.size)) :
  Walks prog w A I [I,a,T] [I] es.size (fun i v=>∃e,((ys.filterMap fun k=>es[k]?))[i]?=some e/\e.2=v) (fun i h=>fT h I (.ref T) i a es.size ep/\bE knd h a ks o es ep t/\h.get? T=some oT) where
 sub:=fun b hb=>by simp at hb;simp [hb]
 frame:=fun _ _ _ st k=>⟨st.1.keep fun o e=>k I (by simp) o e,st.2.1.keep fun o e=>k a (by simp) o e,k T (by simp) _ st.2.2⟩
 item:=fun i s Q E hi st q=>by
  have hl:ys.length=es.size:=by rw [hp.length_eq,HY]
  have hin:∀k∈ys,k<es.size:=fun k hk=>Ho.mp (hp.mem_iff.mp hk)
  have h1:ys[i]?=some (ys[i]'(by omega)):=by simp
  have hk:ys[i]'(by omega)<es.size:=hin _ (Hz _)
  generalize ys[i]'(by omega)=k at h1 hk
  have hx:es[k]?=some es[k]:=by simp [hk]
  have hv:(ys.filterMap fun k=>es[k]?)[i]?=some es[k]:=by
   rw [pI hin,h1]
   exact hx
  refine Bi (k:=k) (x:=es[k]) st.1 st.2.1 st.2.2 dT (by simp [h1,rawInt]) hx fun h' hit' sb=>?_
  exact q _ h' s.toks ⟨_,hv,rfl⟩ ⟨hit',st.2.1.keep fun o e=>sb.extBut a o hI e,sb.extBut T _ hT st.2.2⟩ fun b o hb e=>sb.extBut b o (fun z=>hb (by simp [z])) e
 done:=fun s Q E st q=>by
  have hl:ys.length=es.size:=by rw [hp.length_eq,HY]
  refine CY hh st.1 st.2.1 st.2.2 dT (by simp [hl]) fun h' k=>?_
  exact q h' s.toks fun b o hb e=>k b o (fun z=>hb (by simp [z])) e
 self:=fun _ _ _ _ st q=>nG st.1 q
theorem nH {b x y:Addr}(h:b∈[x,y]):b=x\/b=y:=by simpa using h
theorem Bj {b x y z:Addr}(h:b∈[x,y,z]):b=x\/b=y\/b=z:=by simpa using h
theorem yr:entryFor table "set.__iter__" = some Builtin.«frozenset.__iter__» :=
 entryFor_alias (id' := "frozenset.__iter__")
  (by kernel_rfl) rfl
  (by decide +kernel)
  (by kernel_rfl)
theorem bE.typeIs (S:bE knd s.heap a ks o es ep t):s.TypeIs (.ref a) "set" := ⟨o,S.at_,S.ex.1⟩
theorem v9 {Q:Bool->Shared->Prop} (S:bE knd s.heap a ks o es ep t) (q:Q (!(w.params.followText "set-order")&&(!t.plain&&decide (es.size > 1))) s):wpAny (model prog w) A (setDrawn a) Q E s:=by
 unfold setDrawn
 refine IZ (Jr S.at_ S.data S.fits ?_)
 dsimp only
 exact IZ (oq (I0 q))
def Comes (es:Array (Int×Value))(P:Nat->Value->Prop):Prop:=∃l:List (Int×Value),l.Perm es.toList/\P=fun i v=>∃e,l[i]?=some e/\e.2=v
theorem Bk {Q:Value->Shared->Prop}(hh:A.handled=none)(S:bE knd s.heap a ks o es ep t)
  (q:∀(I:Addr) (h':Heap) (d:_) (fp:List Addr) (P:Nat->Value->Prop) (St:Nat->Heap->Prop),(∀b o,s.heap.get? b=some o->h'.get? b=some o)->s.heap.objs.size<=I->(∀b∈fp,b<h'.objs.size)->(∀b,h'.objs.size<=b->b∉fp) ->
   (∀b∈fp,b=a\/s.heap.objs.size<=b)->Comes es P->(∀A:Around,A.handled=none->Walks prog w A I fp [I] es.size P St)->St 0 h'->Q (.ref I) { s with heap:=h',drawn:=d }) :
  wpAny (model prog w) A (pyIter (.ref a)) Q E s:=by
 have la:a<s.heap.objs.size:=Gq S.at_
 refine wpAny_pyIter_slot S.typeIs PySem.F.slot_set_iter (Jd PySem.F.slot_set_iter S.typeIs yr ?_ (PySem.F.args_set_iter_1 _))
 unfold Builtin.«frozenset.__iter__»
 refine IZ ?_
 unfold Builtin.Frozenset.slot0
 refine IZ (I0 ?_)
 refine I0 ?_
 refine IZ ?_
 unfold Builtin.Frozenset.sizeOf
 refine IZ (Ju S.at_ S.data S.fits (I0 ?_))
 refine IZ (v9 S ?_)
 cases hb:w.params.followText "set-order" with
 | true =>
  rw [Bool.not_true,Ih,if_neg GR]
  refine IZ (I0 ?_)
  refine IZ (JF S.at_ S.data S.fits ?_)
  refine IZ ?_
  simp only [newFields]
  refine Je (I0 ⟨_,rfl, "set_iterator",_,⟨_,Gx _ rfl,rfl⟩,slot_next.lookup,?_⟩) (by size_fits)
  refine q _ _ s.drawn [s.heap.objs.size,a] _ _ (fun b o e=>Gs _ e) (Gi _) (fun b hb=>?_) (fun b hb hm=>?_) (fun b hb=>?_) ⟨_,i8 (w.params.setOrder a ep) es,?_⟩ (fun A hh=>D9 (knd:=knd) (ks:=ks) (o:=o) (t:=t) hh (Gw la) hb trivial) ⟨⟨_,Gx _ rfl,rfl,rfl⟩,S.keep fun o e=>Gs _ e⟩
  ·rw [GU]
   rcases nH hb with e | e
   ·rw [e];exact G8 _
   ·rw [e];exact Hb la
  ·rw [GU] at hb
   rcases nH hm with e | e
   ·rw [e] at hb;exact IB _ hb
   ·rw [e] at hb;exact GY _ (GV la (HZ hb))
  ·rcases nH hb with e | e
   ·exact .inr (by rw [e];exact Gi _)
   ·exact .inl e
  ·funext i v;simp
 | false =>
  rw [Bool.not_false,IC]
  by_cases hd:(!t.plain&&decide (es.size > 1))=true
  ·rw [hd,if_pos rfl]
   refine IZ (EO es.size (GN es.size) s (by simp) fun ys d hp=>?_)
   have hz:(ys.map fun (i:Nat)=>rawInt i).length<=sizeLine:=by rw [Gg,hp.length_eq,HY];exact fits_of_scanBound S.bK
   refine IZ (wpAny_newTuple ?_ hz)
   have S1:bE knd (s.heap.push { cls:=.type "tuple",data:=.seq (ys.map fun (i:Nat)=>rawInt i).toArray }) a ks o es ep t:=S.keep fun o e=>Gs _ e
   refine IZ (JF S1.at_ S1.data S1.fits ?_)
   refine IZ ?_
   simp only [newFields]
   refine Je (I0 ⟨_,rfl, "set_iterator",_,⟨_,Gx _ rfl,rfl⟩,slot_next.lookup,?_⟩) (by size_fits)
   refine q _ _ d [(s.heap.push { cls:=.type "tuple",data:=.seq (ys.map fun (i:Nat)=>rawInt i).toArray }).objs.size,a,s.heap.objs.size] _ _ (fun b o e=>Gs _ (Gs _ e)) (by rw [GU];exact Hh _) (fun b hb=>?_) (fun b hb hm=>?_) (fun b hb=>?_) ⟨ys.filterMap fun k=>es[k]?,?_,rfl⟩
    (fun A hh=>Eb (knd:=knd) (ks:=ks) (o:=o) (t:=t) (oT:={ cls:=.type "tuple",data:=.seq (ys.map fun (i:Nat)=>rawInt i).toArray }) hh (by rw [GU];exact Gw (Hb la)) (by rw [GU];exact Gw (G8 _)) rfl hp) ⟨⟨_,Gx _ rfl,rfl,rfl⟩,S1.keep fun o e=>Gs _ e,Gs _ (Gx _ rfl)⟩
   ·rw [GU,GU]
    rcases Bj hb with e | e | e
    ·rw [e,GU];exact G8 _
    ·rw [e];exact Hb (Hb la)
    ·rw [e];exact Hb (G8 _)
   ·rw [GU,GU] at hb
    rcases Bj hm with e | e | e
    ·rw [e,GU] at hb;exact IB _ hb
    ·rw [e] at hb;exact GY _ (GV la (HZ (HZ hb)))
    ·rw [e] at hb;exact IB _ (HZ hb)
   ·rcases Bj hb with e | e | e
    ·exact .inr (by rw [e,GU];exact Hh _)
    ·exact .inl e
    ·exact .inr (by rw [e];exact Gi _)
   ·refine (hp.filterMap _).trans ?_
    have:((GN es.size).filterMap fun k=>es[k]?)=es.toList:=by
     refine List.ext_getElem? fun i=>?_
     rw [pI (fun k hk=>Ho.mp hk)]
     by_cases hi:i<es.size
     ·rw [Ia hi];simp
     ·rw [HM (by simp;omega),HM (by simp;omega)];rfl
    rw [this]
  ·rw [if_neg hd]
   refine IZ (I0 ?_)
   refine IZ (JF S.at_ S.data S.fits ?_)
   refine IZ ?_
   simp only [newFields]
   refine Je (I0 ⟨_,rfl, "set_iterator",_,⟨_,Gx _ rfl,rfl⟩,slot_next.lookup,?_⟩) (by size_fits)
   have hd':t.plain=true\/es.size<=1:=by
    cases hp:t.plain with
    | true=>exact .inl rfl
    | false=>right;rw [hp] at hd;simp at hd;exact hd
   refine q _ _ s.drawn [s.heap.objs.size,a] _ _ (fun b o e=>Gs _ e) (Gi _) (fun b hb=>?_) (fun b hb hm=>?_) (fun b hb=>?_) ⟨es.toList,.refl _,?_⟩ (fun A hh=>Ea (knd:=knd) (ks:=ks) (o:=o) (t:=t) hh (Gw la) hb hd' S.fits S.up) ⟨⟨_,Gx _ rfl,rfl,rfl⟩,S.keep fun o e=>Gs _ e⟩
   ·rw [GU]
    rcases nH hb with e | e
    ·rw [e];exact G8 _
    ·rw [e];exact Hb la
   ·rw [GU] at hb
    rcases nH hm with e | e
    ·rw [e] at hb;exact IB _ hb
    ·rw [e] at hb;exact GY _ (GV la (HZ hb))
   ·rcases nH hb with e | e
    ·exact .inr (by rw [e];exact Gi _)
    ·exact .inl e
   ·funext i v;simp
theorem Bm {Q:Bool->Shared->Prop} (hT:s.TypeIs (.ref a) "set") (q:Q false s):wpAny (model prog w) A (Builtin.List.listLengthHint (.ref a)) Q E s:=by
 unfold Builtin.List.listLengthHint
 refine IZ (wpAny_specialOf hT PySem.F.slot_set_len.lookup ?_)
 generalize hid:("set.__len__" : String)=id0
 wp_delta
 rw [show splitId id0=some ("set", "__len__") from by subst hid;decide +kernel]
 subst hid
 refine IZ (Jt (T := "set") (b:=true) hT sub_set_self ?_)
 refine JA (fun hab=>absurd hab (by decide)) (fun _=>?_)
 refine JA (fun _=>?_) (fun hab=>absurd (by decide +kernel) hab)
 refine IZ (Jm hT ?_)
 exact I0 q
end
open PySem.Calls PySem.W
section
variable {prog:Program}{w:World}{K:Type}[DecidableEq K]{knd:KeyKind prog w K}
variable {A:Around}{E:Value->Shared->Prop}{s:Shared}{a:Addr}{ks:List K}{o:Obj}{es:Array (Int×Value)}{ep:Nat}{t:SetTable}
theorem wa {P:Nat->Value->Prop}{got:Array Value}(hc:Comes es P)(hi:ItemsOf P got es.size):∃l:List (Int×Value),l.Perm es.toList/\got.toList=l.map (·.2):=by
 obtain⟨l,hp,rfl⟩:=hc
 refine⟨l,hp,?_⟩
 have hl:l.length=es.size:=by rw [hp.length_eq,G4]
 refine List.ext_getElem? fun i=>?_
 rw [GI]
 by_cases h:i<es.size
 ·have e1:got.toList[i]?=some (got[i]'(by rw [hi.1];exact h)):=by simp [hi.1,h]
  obtain⟨e,he,hv⟩:=hi.2 i _ (by rw [<-Ir];exact e1)
  rw [e1,he,<-hv];rfl
 ·rw [HM (by rw [G4,hi.1];omega),HM (by omega)];rfl
theorem yt {R:Result->Shared->Prop}(hh:A.handled=none)(S:bE knd s.heap a ks o es ep t)(L:Addr)(hLa:L≠a)(hL:s.heap.get? L=some { cls:=.type "list",data:=.seq #[] 0 })(res:Value)
  (fin:∀(g:Heap) (tk:Nat) (d:_) (got:Array Value) (c:Nat),(∀b o,b≠L->s.heap.get? b=some o->g.get? b=some o)->g.get? L=some { cls:=.type "list",dict:=none,data:=.seq got c,slots:=#[] } ->
   (∃l:List (Int×Value),l.Perm es.toList/\got.toList=l.map (·.2))->R (.ok (.ret res)) { s with heap:=g,toks:=tk,drawn:=d }) :
  wpAny (model prog w) A.in1 (Builtin.List.listExtendWith (.ref L) (.ref a) res)
   (fun fin s'=>match fin with | .done f=>R (.ok f) s' | .again c'=>c'.quiet=true/\codeAny (model prog w) A c' R s') (fun e s'=>R (.error e) s') s:=by
 have hz:es.size<=sizeLine:=fits_of_scanBound S.bK
 unfold Builtin.List.listExtendWith
 refine IZ (Jm S.typeIs ?_)
 have h1:Builtin.List.listSameRef (.ref L) (.ref a)=false:=by simp [Builtin.List.listSameRef,hLa]
 rw [h1]
 have h2:(Value.type "set" == Value.type "list")=false:=by decide
 have h3:(Value.type "set" == Value.type "tuple")=false:=by decide
 rw [h2,h3]
 rw [if_neg (by decide)]
 refine IZ (Bk (A:=A.in1) hh S fun I h1 d fp P St keep hI hfp hnew hof hc W st=>?_)
 have hLlt:L<s.heap.objs.size:=Gq hL
 have hLf:L∉fp:=fun hm=>by
  rcases hof L hm with e | e
  ·exact hLa e
  ·exact GY _ (GV hLlt e)
 have hLI:L≠I:=fun e=>GY _ (GV hLlt (e ▸ hI))
 have Wk:=W A.in1 hh
 have loop:∀(g:Heap) (c tk:Nat),St 0 g->(∀b o,b≠L->s.heap.get? b=some o->g.get? b=some o)->g.get? L=some { cls:=.type "list",data:=.seq #[] c } ->
   codeAny (model prog w) A (.builtin "list.extend.loop" ⟨[.ref L,.ref I,res],[]⟩) R { s with heap:=g,toks:=tk,drawn:=d }:=by
  intro g c tk st' kp gL
  refine codeAny_extend_loopS Wk.toS hz L hLf res es.size 0 _ #[] c rfl (GK _) st' gL (ItemsOf.nil _) fun s' got c' mv gL' its=>?_
  have e:=Moved.eq_with mv
  rw [e]
  refine fin s'.heap s'.toks d got c' (fun b o hb e=>mv.heap b o (fun hm=>?_) (kp b o hb e)) gL' (wa hc its)
  rcases Gu.mp hm with e' | hm
  ·exact hb e'
  ·rw [Gp] at hm
   subst hm
   exact GY _ (GV (Gq e) hI)
 have gL1:=keep _ _ hL
 refine IZ (Jc (Bm ⟨o,keep _ _ S.at_,S.ex.1⟩ ?_))
 refine JA (fun _=>?_) (fun _=>I0 ⟨plainId_quiet PySem.F.plain_extend_loop _,loop _ 0 _ st (fun b o _ e=>keep b o e) gL1⟩)
 refine IZ (Ji ?_)
 refine IZ ?_
 show wpAny _ _ (updateSeq L (·.push .none) >>= fun _=>updateSeq L (·.pop)) _ _ _
 refine IZ (wpAny_updateSeq gL1 rfl ?_)
 have gL2:=Hi (Obj.mapSeq (·.push Value.none)) gL1 rfl
 refine wpAny_updateSeq (hz:=by seq_fits) gL2 rfl ?_
 have gL3:=Hi (Obj.mapSeq (·.pop)) gL2 rfl
 refine I0 ⟨plainId_quiet PySem.F.plain_extend_loop _,loop _ _ _ ?_ (fun b o hb e=>?_) gL3⟩
 ·refine Wk.frame 0 _ _ st fun b hb o e=>?_
  have hbL:b≠L:=fun h=>hLf (h ▸ hb)
  exact (Hj _ _ (Ne.symm hbL)).trans ((Hj _ _ (Ne.symm hbL)).trans e)
 ·exact (Hj _ _ (Ne.symm hb)).trans ((Hj _ _ (Ne.symm hb)).trans (keep b o e))
theorem qI {G:List Value->Shared->Prop}(calm:A.handled=none)(S:bE knd s.heap a ks o es ep t)
  (fin:∀(g:Heap) (tk:Nat) (d:_) (got:Array Value),(∀b o,s.heap.get? b=some o->g.get? b=some o)->(∃l:List (Int×Value),l.Perm es.toList/\got.toList=l.map (·.2))->s.heap.objs.size<=g.objs.size->G got.toList { s with heap:=g,toks:=tk,drawn:=d }) :
  wpAny (model prog w) A (collect (.ref a)) G E s:=by
 have la:a<s.heap.objs.size:=Gq S.at_
 unfold collect
 refine IZ (wpAny_runValue (Jh entry_proto_collect' ?_))
 rw [Hm PySem.F.plain_proto_collect _]
 show wpAny _ A.in1 (newList [] >>= fun z=>again (.builtin "list.__iadd__" ⟨[z,.ref a],[]⟩)) _ _ s
 refine IZ (Je (I0 ⟨plainId_quiet PySem.F.plain_list_iadd _,Jh entry_list_iadd' ?_⟩))
 rw [Hm PySem.F.plain_list_iadd _]
 show wpAny _ A.in1 (Builtin.List.listExtendWith (.ref s.heap.objs.size) (.ref a) (.ref s.heap.objs.size)) _ _ _
 have made:(s.heap.push { cls:=.type "list",data:=.seq ([]:List Value).toArray }).get? s.heap.objs.size=some { cls:=.type "list",data:=.seq #[] 0 }:=Gx _ rfl
 have run:=yt (A:=A) (s:={ s with heap:=s.heap.push { cls:=.type "list",data:=.seq ([]:List Value).toArray } })
  (R:=fun (z:Result) (t:Shared)=>∃(g:Heap) (tk:Nat) (d:_) (got:Array Value) (c:Nat),z=.ok (.ret (.ref s.heap.objs.size))/\t={ s with heap:=g,toks:=tk,drawn:=d } /\
   (∀b o,s.heap.get? b=some o->g.get? b=some o)/\g.get? s.heap.objs.size=some { cls:=.type "list",dict:=none,data:=.seq got c,slots:=#[] }/\∃l:List (Int×Value),l.Perm es.toList/\got.toList=l.map (·.2))
  calm (S.keep fun o e=>Gs _ e) s.heap.objs.size (Hq la) made (.ref s.heap.objs.size)
  (fun g tk d got c kept at_ its=>⟨g,tk,d,got,c,rfl,rfl,fun b o e=>kept b o (Gw (Gq e)) (Gs _ e),at_,its⟩)
 refine Ja run (fun z t x=>?_) fun z t ⟨_,_,_,_,_,bad,_⟩=>by cases bad
 cases z with
 | done f =>
  obtain⟨g,tk,d,got,c,e,rfl,kept,at_,its⟩:=x
  cases e
  show wpAny _ A (load s.heap.objs.size >>= _) _ _ _
  exact IZ (wpAny_load at_ (I0 (fin g tk d got kept its (G3 (Gq at_)))))
 | again more =>
  refine⟨x.1,Jj x.2 fun z' t' ⟨g,tk,d,got,c,e1,e2,kept,at_,its⟩=>?_⟩
  subst e1 e2
  show wpAny _ A (load s.heap.objs.size >>= _) _ _ _
  exact IZ (wpAny_load at_ (I0 (fin g tk d got kept its (G3 (Gq at_)))))
end
end LS
namespace L2
open PySem PySem.Spec PyProof.Rows LS
theorem wb {P:Program}{w:World}{i:Int}{v:Value}(h:(aW P w).is (Sum.inl i) v=true):∃t,v=.int i t:=by
 rcases cT (show jf (Sum.inl i) v=true from h) with ⟨j,t,e,rfl⟩ | ⟨x,t,e,rfl⟩
 ·cases e;exact⟨t,rfl⟩
 ·cases e
def qJ (m:List Key):List Str:=m.filterMap fun k=>match k with | .inr x=>some x | .inl _=>none
def qK (m:List Key):List Int:=m.filterMap fun k=>match k with | .inl x=>some x | .inr _=>none
theorem zR (ss:List Str):qJ (ss.map Sum.inr)=ss:=by
 induction ss with
 | nil=>rfl
 | cons x ss ih=>show x::qJ (ss.map Sum.inr)=x::ss;rw [ih]
theorem zS (ss:List Int):qK (ss.map Sum.inl)=ss:=by
 induction ss with
 | nil=>rfl
 | cons x ss ih=>show x::qK (ss.map Sum.inl)=x::ss;rw [ih]
theorem Bn {m:List Key}{ss:List Str}(p:m.Perm (ss.map Sum.inr)):m=(qJ m).map Sum.inr/\(qJ m).Perm ss:=by
 refine⟨?_,by have:=p.filterMap (fun k:Key=>match k with | .inr x=>some x | .inl _=>none);rw [show List.filterMap _ (ss.map Sum.inr)=ss from zR ss] at this;exact this⟩
 have hall:∀k∈m,∃x,k=Sum.inr x:=fun k hk=>by
  obtain⟨x,_,rfl⟩:=GH.mp (p.mem_iff.mp hk)
  exact⟨x,rfl⟩
 clear p
 induction m with
 | nil=>rfl
 | cons k m ih =>
  obtain⟨x,rfl⟩:=hall k (GB ..)
  have:=ih fun k hk=>hall k (GC _ hk)
  show Sum.inr x::m=Sum.inr x::(qJ m).map Sum.inr
  rw [<-this]
theorem Bo {m:List Key}{ss:List Int}(p:m.Perm (ss.map Sum.inl)):m=(qK m).map Sum.inl/\(qK m).Perm ss:=by
 refine⟨?_,by have:=p.filterMap (fun k:Key=>match k with | .inl x=>some x | .inr _=>none);rw [show List.filterMap _ (ss.map Sum.inl)=ss from zS ss] at this;exact this⟩
 have hall:∀k∈m,∃x,k=Sum.inl x:=fun k hk=>by
  obtain⟨x,_,rfl⟩:=GH.mp (p.mem_iff.mp hk)
  exact⟨x,rfl⟩
 clear p
 induction m with
 | nil=>rfl
 | cons k m ih =>
  obtain⟨x,rfl⟩:=hall k (GB ..)
  have:=ih fun k hk=>hall k (GC _ hk)
  show Sum.inl x::m=Sum.inl x::(qK m).map Sum.inl
  rw [<-this]
section
variable {prog:Program}{w:World}{A:Around}{E:Value->Shared->Prop}{s:Shared}{a:Addr}{ks:List Key}{o:Obj}{es:Array (Int×Value)}{ep:Nat}{t:SetTable}
theorem vm {got:List Value}(S:LS.bE (aW prog w) s.heap a ks o es ep t)(h:∃l:List (Int×Value),l.Perm es.toList/\got=l.map (·.2)):∃m:List Key,m.Perm ks/\Paired (fun v k=>(aW prog w).is k v=true) got m:=by
 obtain⟨l,hp,rfl⟩:=h
 obtain⟨ls,q1,q2⟩:=S.ents
 obtain⟨m,m1,m2⟩:=lq hp q2
 refine⟨m,m1.trans q1,?_⟩
 clear hp q2 m1
 induction m2 with
 | nil=>exact .nil
 | cons r _ ih=>exact .cons r.1 ih
theorem nI:∀{got:List Value} {ss:List Str},Paired (fun v k=>(aW prog w).is k v=true) got (ss.map Sum.inr)->StrsAre got ss
 | _,[],.nil=>.nil
 | _,x::ss,.cons r t=>by
  obtain⟨t',rfl⟩:=oS r
  exact .cons x t' (nI t)
theorem nJ:∀{got:List Value} {ss:List Int},Paired (fun v k=>(aW prog w).is k v=true) got (ss.map Sum.inl)->IntsAre got ss
 | _,[],.nil=>.nil
 | _,x::ss,.cons r t=>by
  obtain⟨t',rfl⟩:=wb r
  exact .cons x t' (nJ t)
theorem wc {ss:List Str}{Q:Value->Shared->Prop}(hh:A.handled=none)(S:LS.bE (aW prog w) s.heap a (ss.map Sum.inr) o es ep t)(h64:ss.length<64)
  (q:∀(h':Heap) (tk:Nat) (d:_) (D:Addr) (out:Array Value) (ss':List Str) (e:Nat),(∀b o,s.heap.get? b=some o->h'.get? b=some o)->s.heap.objs.size<=D->h'.get? D=some { cls:=.type "list",data:=.seq out e } ->
   StrsAre out.toList ss'->ss'.Perm ss->sortedS ss' = true->Q (.ref D) { s with heap:=h',toks:=tk,drawn:=d }) :
  wpAny (model prog w) A (call (.builtin "sorted") [.ref a]) Q E s:=by
 refine Calls.call_function_entry kind_sorted plain_sorted entry_sorted (args_sorted1 _) ?_
 unfold Builtin.«sorted»
 refine IZ (m:=checkCount "sorted" 1 1 _) (I0 ?_)
 refine IZ (qI (A:=A.in1) hh S fun h' tk d acc hkeep hacc hsz=>?_)
 obtain⟨m,m1,m2⟩:=vm S hacc
 obtain⟨e1,p1⟩:=Bn m1
 rw [e1] at m2
 have hS:=nI m2
 have hl:acc.toList.length<64:=by rw [m2.length,Gg,p1.length_eq];exact h64
 refine IZ (wpAny_newList ?_ (Gy (G3 hl) (by decide)))
 have hoL:(h'.push (seqObj "list" acc.toList.toArray 0)).get? h'.objs.size=some (seqObj "list" acc.toList.toArray 0):=Gx _ rfl
 refine IZ (Jc (Jd slot_list_sort ⟨_,hoL,rfl⟩ entry_list_sort (list_sort_treeK strKind_oneLt hoL hS.keysOf (fun v₁ v₂ rest e=>keyKind_strs (by rw [<-e];exact hS)) hl fun st' a1 a2=>⟨_,rfl,?_⟩) (args_list_sort _)))
 obtain⟨ss',b1,b2,b3⟩:=sorted_out_str hS a1 a2
 obtain⟨e,he⟩:=sortedHeap_at (out:=(arrOf st').map (·.2)) hoL
 refine I0 ⟨_,rfl,q _ tk d _ _ ss' e (fun b o ho=>?_) hsz he b1 (b2.trans p1) b3⟩
 have h1:=hkeep b o ho
 have hlt:=Gq h1
 rw [sortedHeap_old (Gw hlt) (by rw [size_push'];exact Hb hlt)]
 exact Gs _ h1
theorem we {ss:List Int}{Q:Value->Shared->Prop}(hh:A.handled=none)(S:LS.bE (aW prog w) s.heap a (ss.map Sum.inl) o es ep t)(h64:ss.length<64)
  (q:∀(h':Heap) (tk:Nat) (d:_) (D:Addr) (out:Array Value) (ss':List Int) (e:Nat),(∀b o,s.heap.get? b=some o->h'.get? b=some o)->s.heap.objs.size<=D->h'.get? D=some { cls:=.type "list",data:=.seq out e } ->
   IntsAre out.toList ss'->ss'.Perm ss->ss'.Pairwise (· <= ·)->Q (.ref D) { s with heap:=h',toks:=tk,drawn:=d }) :
  wpAny (model prog w) A (call (.builtin "sorted") [.ref a]) Q E s:=by
 refine Calls.call_function_entry kind_sorted plain_sorted entry_sorted (args_sorted1 _) ?_
 unfold Builtin.«sorted»
 refine IZ (m:=checkCount "sorted" 1 1 _) (I0 ?_)
 refine IZ (qI (A:=A.in1) hh S fun h' tk d acc hkeep hacc hsz=>?_)
 obtain⟨m,m1,m2⟩:=vm S hacc
 obtain⟨e1,p1⟩:=Bo m1
 rw [e1] at m2
 have hS:=nJ m2
 have hl:acc.toList.length<64:=by rw [m2.length,Gg,p1.length_eq];exact h64
 refine IZ (wpAny_newList ?_ (Gy (G3 hl) (by decide)))
 have hoL:(h'.push (seqObj "list" acc.toList.toArray 0)).get? h'.objs.size=some (seqObj "list" acc.toList.toArray 0):=Gx _ rfl
 refine IZ (Jc (Jd slot_list_sort ⟨_,hoL,rfl⟩ entry_list_sort (list_sort_tree hoL hS hl fun out ss' b1 b2 b3=>⟨_,rfl,?_⟩) (args_list_sort _)))
 obtain⟨e,he⟩:=sortedHeap_at (out:=out) hoL
 refine I0 ⟨_,rfl,q _ tk d _ _ ss' e (fun b o ho=>?_) hsz he b1 (b2.trans p1) b3⟩
 have h1:=hkeep b o ho
 have hlt:=Gq h1
 rw [sortedHeap_old (Gw hlt) (by rw [size_push'];exact Hb hlt)]
 exact Gs _ h1
end
def bW (P:Program)(w:World)(a:Addr)(ks:List Key):HO:=.ext fun h=>fh (aW P w) h a ks
theorem lQ {P:Program}{w:World}{H:Hp}{h:Heap}{a:Addr}{ks:List Key}(S:fh (aW P w) h a ks):cA P w H h a (bW P w a ks) :=
 ⟨S,let ⟨o,_,_,_,S⟩:=S;⟨o,S.at_⟩,fun h1 h2 S k=>S.keep k⟩
section
variable {X:Cx}{pins:List (Addr×Obj)}{Gd : List (Option V)}{H:Hp}{s:Shared}
theorem Inv.pJ {a:Addr}{ks:List Key}(I:Inv X pins Gd H s)(h:H a=some (bW X.prog X.w a ks)):fh (aW X.prog X.w) s.heap a ks:=(I.aZ a _ h).1
theorem Inv.xr {d:_}(I:Inv X pins Gd H s):Inv X pins Gd H { s with drawn:=d }:=⟨I.ok,I.os,I.bare,I.base,I.loc,I.cell,I.free,I.iq,I.pin,I.aZ,I.len⟩
theorem uc (hc:X.calm=true):eZ X (.builtin "sorted") (fun vs H Q=>∃(a:Addr) (ss:List Str),vs=[.ref a]/\H a=some (bW X.prog X.w a (ss.map Sum.inr))/\ss.length<64 /\
  ∀(l:Addr) (ss':List Str),ss'.Perm ss->sortedS ss' = true->H l=none->Q (.ref l) (upd H l (.lst (ss'.map V.str)))):=by
 intro pins s Gd H xs us Q I r h
 obtain⟨a,ss,rfl,ha,h64,q⟩:=h
 obtain⟨u,rfl,ru⟩:=vals1 r
 cases (show u=Value.ref a from ru)
 obtain⟨o,es,ep,t,S⟩:=I.pJ ha
 refine wc (I.ok.hd hc) S h64 fun h' tk d D out ss' e hkeep hD he hS hp hs=>?_
 have hv:Vals (ss'.map V.str) out.toList:=rZ hS
 refine⟨.ref D,_,(I.xr (d:=d)).laid (t':=tk) (o:=.lst (ss'.map V.str)) hkeep hD (show cA X.prog X.w _ h' _ (.lst (ss'.map V.str)) from ⟨?_,out.toList,e,hv,by simpa using he⟩),rfl,q D ss' hp hs (I.aZ.fresh hD)⟩
 rw [Gg,hp.length_eq]
 exact Gy (G3 h64) (by decide)
theorem mQ (hc:X.calm=true):eZ X (.builtin "sorted") (fun vs H Q=>∃(a:Addr) (ss:List Int),vs=[.ref a]/\H a=some (bW X.prog X.w a (ss.map Sum.inl))/\ss.length<64 /\
  ∀(l:Addr) (ss':List Int),ss'.Perm ss->ss'.Pairwise (· <= ·)->H l=none->Q (.ref l) (upd H l (.lst (ss'.map V.int)))):=by
 intro pins s Gd H xs us Q I r h
 obtain⟨a,ss,rfl,ha,h64,q⟩:=h
 obtain⟨u,rfl,ru⟩:=vals1 r
 cases (show u=Value.ref a from ru)
 obtain⟨o,es,ep,t,S⟩:=I.pJ ha
 refine we (I.ok.hd hc) S h64 fun h' tk d D out ss' e hkeep hD he hS hp hs=>?_
 have hv:Vals (ss'.map V.int) out.toList:=m8 hS
 refine⟨.ref D,_,(I.xr (d:=d)).laid (t':=tk) (o:=.lst (ss'.map V.int)) hkeep hD (show cA X.prog X.w _ h' _ (.lst (ss'.map V.int)) from ⟨?_,out.toList,e,hv,by simpa using he⟩),rfl,q D ss' hp hs (I.aZ.fresh hD)⟩
 rw [Gg,hp.length_eq]
 exact Gy (G3 h64) (by decide)
end
end L2
namespace LS
open PySem PySem.Spec PyProof.Rows L2
section
variable {K:Type}[DecidableEq K]
def putIn (acc:List K)(k:K):List K:=if k∈acc then acc else acc++[k]
def dZ (ms:List K):List K:=ms.foldl putIn []
theorem gN {acc:List K}{k x:K}:x∈putIn acc k↔x∈acc\/x=k:=by
 unfold putIn
 split
 ·rename_i h
  exact⟨.inl,fun z=>z.elim id (fun e=>e ▸ h)⟩
 ·simp
theorem zT (acc:List K)(k:K):(putIn acc k).length<=acc.length+1:=by unfold putIn;split <;> simp
theorem pK:∀(ms acc:List K) (x:K),x∈ms.foldl putIn acc↔x∈acc\/x∈ms
 | [],acc,x=>by simp
 | k::ms,acc,x=>by
  rw [HI,pK ms,gN]
  simp [or_assoc]
theorem tF {ms:List K}{x:K}:x∈dZ ms↔x∈ms:=by unfold dZ;rw [pK];simp
theorem vn:∀(ms acc:List K),(ms.foldl putIn acc).length<=acc.length+ms.length
 | [],acc=>by simp
 | k::ms,acc=>by
  rw [HI]
  have:=vn ms (putIn acc k)
  have:=zT acc k
  simp only [GZ];omega
theorem xt:∀(ms acc:List K),acc.Nodup->(ms.foldl putIn acc).Nodup
 | [],acc,h=>h
 | k::ms,acc,h=>by
  rw [HI]
  refine xt ms _ ?_
  unfold putIn
  split
  ·exact h
  ·rename_i hn
   rw [Hv]
   exact⟨h,by simp,fun a ha b hb e=>hn (by rw [Gp] at hb;rw [<-hb,<-e];exact ha)⟩
theorem vo (ms:List K):(dZ ms).Nodup:=xt ms [] HB
end
section
variable {prog:Program}{w:World}{A:Around}{E:Value->Shared->Prop}{s:Shared}
theorem pL {k:Key}{v:Value}(h:(aW prog w).is k v=true):v.scannable=true:=by
 rcases cT (show jf k v=true from h) with ⟨j,t,_,rfl⟩ | ⟨x,t,_,rfl⟩ <;> rfl
theorem sd {a:Addr}{ks:List Key}{k:Key}{v:Value}{Q:Bool->Shared->Prop}(hk:(aW prog w).is k v=true)(S:fh (aW prog w) s.heap a ks)(room:ks.length+1<scanBound)
  (q:∀h',GX a s.heap h'->fh (aW prog w) h' a (putIn ks k)->∀c:Bool,Q c { s with heap:=h',toks:=s.toks+1 }):wpAny (model prog w) A (setAdd a v) Q E s:=by
 unfold setAdd
 refine Jc ?_
 refine IZ ((aW prog w).pyHash hk ?_)
 exact yo (s:={ s with toks:=s.toks+1 }) hk (pL hk) S room fun h' b S'=>q h' b S' _
theorem Bp {a:Addr}{ks:List Key}{k:Key}{v:Value}{Q:Value->Shared->Prop}(hk:(aW prog w).is k v=true)(S:fh (aW prog w) s.heap a ks)(room:ks.length+1<scanBound)
  (q:∀h',GX a s.heap h'->fh (aW prog w) h' a (putIn ks k)->Q .none { s with heap:=h',toks:=s.toks+1 }):wpAny (model prog w) A (call (.builtin "set.add") [.ref a,v]) Q E s:=by
 refine Jd PySem.F.slot_set_add S.setOf.typeIs PySem.F.entry_set_add ?_ (PySem.F.args_set_add_2 _ _)
 unfold Builtin.«set.add» Builtin.Frozenset.oneOther
 simp only [List.isEmpty_nil,bind_assoc]
 unfold Builtin.Frozenset.addrOf
 refine IZ (I0 ?_)
 refine IZ (I0 ?_)
 refine IZ (sd hk S room fun h' b S' _=>?_)
 exact I0 ⟨_,rfl,q h' b S'⟩
theorem zU {I L:Addr}{fp wr:List Addr}{G:Array GenState->Array GenState->Prop}{n:Nat}{P:Nat->Value->Prop}{St:Nat->Shared->Prop}{R:Result->Shared->Prop}(W:WalksS prog w A.in1 I fp wr G n P St)(hLf:L∉fp)
  (ms:List Key) (hl:ms.length=n) (hm:∀i v,P i v->∃k,ms[i]?=some k/\(aW prog w).is k v=true) (hb:n+1<scanBound) :
  ∀(k i:Nat) (s:Shared),n-i=k->i<=n->St i s->fh (aW prog w) s.heap L (dZ (ms.take i)) ->
   (∀s',Moved (L::wr) G s s'->fh (aW prog w) s'.heap L (dZ ms)->R (.ok (.ret .none)) s') ->
   codeAny (model prog w) A (.builtin "set.update.loop" ⟨[.ref L,.ref I],[]⟩) R s:=by
 have hLw:L∉wr:=fun h=>hLf (W.sub _ h)
 intro k
 induction k with
 | zero =>
  intro i s hk hi st S q
  have e:i=n:=by omega
  subst e
  refine Jh PyProof.Rows.F.entry_set_update_loop ?_
  rw [Hm PyProof.Rows.F.plain_set_update_loop _]
  show wpAny _ A.in1 (pyNext (.ref I) >>= _) _ _ s
  refine IZ (W.done s _ _ st fun s' mv=>?_)
  refine I0 (q s' (mv.mono fun b hb=>GC _ hb) ?_)
  rw [IA (by omega)] at S
  exact S.keep fun o e=>mv.heap L _ hLw e
 | succ k ih =>
  intro i s hk hi st S q
  have hlt:i<n:=by omega
  refine Jh PyProof.Rows.F.entry_set_update_loop ?_
  rw [Hm PyProof.Rows.F.plain_set_update_loop _]
  show wpAny _ A.in1 (pyNext (.ref I) >>= _) _ _ s
  refine IZ (W.item i s _ _ hlt st fun v s' hP st' mv=>?_)
  obtain⟨key,hkey,his⟩:=hm i v hP
  have S':fh (aW prog w) s'.heap L (dZ (ms.take i)):=S.keep fun o e=>mv.heap L _ hLw e
  refine IZ (Jc (sd his S' ?_ fun h' sb S2 _=>?_))
  ·have h1:=vn (ms.take i) []
   have h2:(ms.take i).length<=i:=by rw [G9];omega
   have h3:(dZ (ms.take i)).length<=0+(ms.take i).length:=h1
   omega
  ·have e1:putIn (dZ (ms.take i)) key=dZ (ms.take (i+1)):=by
    unfold dZ
    rw [G1,hkey,Ic];rfl
   rw [e1] at S2
   refine I0 ⟨plainId_quiet PyProof.Rows.F.plain_set_update_loop _,ih (i+1) _ (by omega) hlt (W.frame _ s' _ _ st' (Hh _) fun b hb o e=>?_) S2 fun s'' mv2 S3=>?_⟩
   ·rw [sb.2 b (fun h:b=L=>hLf (by rw [<-h];exact hb))];exact e
   ·refine q s'' (Moved.trans W.gtrans ((mv.mono fun b hb=>GC _ hb).then_heap (Hh _) fun b o hb e=>?_) mv2) S3
    rw [sb.2 b (fun h:b=L=>hb (by rw [h];exact GB))];exact e
end
theorem mr {α β : Type}{F:α->β->Prop}:∀{l:List α} {m:List β},Paired F l m->∀{i:Nat} {x:α},l[i]?=some x->∃y,m[i]?=some y/\F x y
 | _,_,.nil,i,x,e=>by simp at e
 | _,_,.cons r _,0,x,e=>by simp at e;subst e;exact⟨_,rfl,r⟩
 | _,_,.cons _ t,i+1,x,e=>by simpa using mr t (i:=i) (x:=x) (by simpa using e)
def dh (w:World):Obj:={ cls:=.type "set",dict:=none,data:=.set #[] 0 (.fresh 0 0 (!(w.params.followText "set-order"))) }
section
variable {prog:Program}{w:World}{A:Around}{E:Value->Shared->Prop}{s:Shared}
theorem zV (rest:List Value) (hc:checkBuiltinCall "set.__new__" ⟨.type "set" :: rest,[]⟩=pure ()) {Q:Value->Shared->Prop} (q:Q (.ref s.heap.objs.size) { s with heap:=s.heap.push (dh w) }) :
  codeAny (model prog w) A (.call (.builtin "set.__new__") ⟨.type "set" :: rest,[]⟩) (wants Q E) s:=by
 refine codeAny_of_tree ?_
 show wpAny _ A.in1 (checkBuiltinCall "set.__new__" ⟨.type "set" :: rest,[]⟩ >>= fun _=>again (.builtin "set.__new__" ⟨.type "set" :: rest,[]⟩)) _ _ s
 refine IZ (wpAny_of_eq hc (I0 ⟨plainId_quiet PySem.F.plain_set_new _,Jh PySem.F.entry_set_new ?_⟩))
 rw [Hm PySem.F.plain_set_new _]
 unfold Builtin.«set.__new__» Builtin.Frozenset.newClass
 have hsub:=sub_set_self
 obtain⟨hp,g,d,tk,os⟩:=s
 dsimp only
 wp_walk
 refine Jz (I0 ?_)
 dsimp only
 simp only [newObj]
 refine IZ (Jv (I0 ?_))
 exact I0 q
theorem vp {rest:List Value} {Q:Value->Shared->Prop} (hct:checkTypeCall "set" ⟨rest,[]⟩=pure ()) (hcn:checkBuiltinCall "set.__new__" ⟨.type "set" :: rest,[]⟩=pure ())
  (hci:∀(M:Model) (A:Around) (E:Value->Shared->Prop) (s':Shared) (Q':Unit->Shared->Prop),s'.TypeIs (.ref s.heap.objs.size) "set" -> Q' () s'->wpAny M A (checkBuiltinCall "set.__init__" ⟨.ref s.heap.objs.size::rest,[]⟩) Q' E s')
  (init:∀(R:Result->Shared->Prop),(∀h' tk,(∀b o,s.heap.get? b=some o->h'.get? b=some o)->Q (.ref s.heap.objs.size) { s with heap:=h',toks:=tk }->R (.ok (.ret .none)) { s with heap:=h',toks:=tk }) ->
   wpAny (model prog w) A.in1.in1 (Builtin.«set.__init__» ⟨.ref s.heap.objs.size::rest,[]⟩) (fun fin s'=>match fin with | .done f=>R (.ok f) s' | .again c'=>c'.quiet=true/\codeAny (model prog w) A.in1 c' R s') (fun e s'=>R (.error e) s')
    { s with heap:=s.heap.push (dh w) }) :
  wpAny (model prog w) A (call (.type "set") rest) Q E s:=by
 obtain⟨c,tl,hmro⟩:=PySem.F.called_set.mro
 have hmade:=PySem.F.called_set.made
 have hsub:=PySem.F.called_set.sub
 refine wpAny_call (codeAny_of_tree ?_)
 show wpAny _ _ (callAny (.type "set") _) _ _ _
 refine I0 ⟨Code.quiet_builtin _ (by decide +kernel),Jh PySem.F.entry_type_call ?_⟩
 rw [Around.under_plain (weight_type_call_type "set" rest []) rfl]
 have h1:=PySem.F.called_set.notType
 have h2:=PySem.F.called_set.canCreate
 repeat (any_goals (first | assumption | wp_step))
 refine Jj (zV (w:=w) rest hcn (E:=E) (Q:=fun obj s₁=>obj=.ref s.heap.objs.size/\s₁ = { s with heap:=s.heap.push (dh w) }) ⟨rfl,rfl⟩) fun r s₁ hr=>?_
 cases r with
 | error e=>exact hr
 | ok fl =>
  cases fl with
  | ret obj =>
   obtain⟨rfl,rfl⟩:=hr
   have hS:(s.heap.push (dh w)).get? s.heap.objs.size=some (dh w):=Gx _ rfl
   have hT:Shared.TypeIs { s with heap:=s.heap.push (dh w) } (.ref s.heap.objs.size) "set" := ⟨_,hS,rfl⟩
   have hli:=PySem.F.called_set.init.lookup
   have hbi:=PySem.F.called_set.init.bind (.ref s.heap.objs.size)
   repeat (any_goals (first | assumption | wp_step))
   refine Jj (codeAny_call_builtin (R:=wants (fun r s₂=>r=.none/\Q (.ref s.heap.objs.size) s₂) E) PySem.F.called_set.init.plain PySem.F.entry_set_init (hci _ _ _ _ _ hT (init _ fun h' tk _ q=>⟨rfl,q⟩))) fun r₂ s₂ hr₂=>?_
   cases r₂ with
   | error e=>exact hr₂
   | ok fl₂ =>
    cases fl₂ with
    | ret r =>
     obtain⟨rfl,hq⟩:=hr₂
     repeat (any_goals (first | assumption | wp_step))
    | _=>exact hr₂.elim
  | _=>exact hr.elim
theorem zW {Q:Value->Shared->Prop}(q:∀h',fh (aW prog w) h' s.heap.objs.size []->(∀b o,s.heap.get? b=some o->h'.get? b=some o)->Q (.ref s.heap.objs.size) { s with heap:=h' }):wpAny (model prog w) A (call (.type "set") []) Q E s:=by
 refine vp PySem.F.typeCall_set_0 PySem.F.newCall_set_0 (fun M A E s' Q' hT q'=>check_set_init hT q') fun R fin=>?_
 have hS:(s.heap.push (dh w)).get? s.heap.objs.size=some (dh w):=Gx _ rfl
 have hT:Shared.TypeIs { s with heap:=s.heap.push (dh w) } (.ref s.heap.objs.size) "set" := ⟨_,hS,rfl⟩
 unfold dh at hS hT ⊢
 unfold Builtin.«set.__init__» noKeywords
 wp_walk
 exact fin _ s.toks (fun b o e=>Gs _ e) (q _ (nF rfl hS) fun b o e=>Gs _ e)
theorem set_list {l:Addr}{items:Array Value}{ms:List Key}{Q:Value->Shared->Prop}(hh:A.handled=none)(hl:s.heap.IsList l items)(hm:Paired (fun v k=>(aW prog w).is k v=true) items.toList ms)(hb:items.size+1<scanBound)
  (q:∀h' tk,fh (aW prog w) h' s.heap.objs.size (dZ ms)->(∀b o,s.heap.get? b=some o->h'.get? b=some o)->Q (.ref s.heap.objs.size) { s with heap:=h',toks:=tk }):wpAny (model prog w) A (call (.type "set") [.ref l]) Q E s:=by
 refine vp (PySem.F.typeCall_set_1 _) (PySem.F.newCall_set_1 _) (fun M A E s' Q' hT q'=>check_set_init_1 hT q') fun R fin=>?_
 have hS:(s.heap.push (dh w)).get? s.heap.objs.size=some (dh w):=Gx _ rfl
 have hT:Shared.TypeIs { s with heap:=s.heap.push (dh w) } (.ref s.heap.objs.size) "set" := ⟨_,hS,rfl⟩
 have hz:(s.heap.push (dh w)).objs.size=s.heap.objs.size+1:=GU _ _
 obtain⟨ol,hol,hcl,nl,hdl⟩:=id hl
 obtain⟨ocls,odict,odata,oslots⟩:=ol
 simp only at hcl hdl
 subst hcl
 subst hdl
 have hol':(s.heap.push (dh w)).get? l=some { cls:=.type "list",dict:=odict,data:=.seq items nl,slots:=oslots }:=Gs _ hol
 have hsls:=PySem.F.sub_list_set
 have hslf:=PySem.F.sub_list_frozenset
 have hne:(Value.type "list" == Value.type "dict")=false:=by decide
 have hl1:(s.heap.push (dh w)).IsList l items:=⟨_,hol',rfl,nl,rfl⟩
 have hlS:l<s.heap.objs.size:=Gq hol
 unfold dh at hS hT hz hol' hl1 ⊢
 unfold Builtin.«set.__init__» noKeywords Builtin.Frozenset.updateFrom
 generalize hPI:pyIter=PI
 wp_walk
 subst hPI
 refine wpAny_pyIter_list hl1 ?_
 refine IZ (wpAny_runValue ?_)
 have hh3:A.in1.in1.in1.handled=none:=by simp [hh]
 refine zU (L:=s.heap.objs.size) ((Walks.list hh3 _ l ?_ items).toS) ?_ ms ?_ (fun i v hv=>?_) hb (items.size-0) 0 _ (by omega) (GK _) ⟨⟨_,Gx _ rfl,rfl,rfl⟩,(hl1.push _)⟩ ?_ fun s' mv S'=>?_
 ·rw [hz];exact Gw (Hb hlS)
 ·rw [hz]
  intro hmem
  rcases nH hmem with e | e
  ·exact absurd e (Gw (G8 _))
  ·exact absurd e (Hq hlS)
 ·rw [<-hm.length,G4]
 ·have hv':items.toList[i]?=some v:=by rw [Ir];exact hv
  exact mr hm hv'
 ·exact nF rfl (Gs _ hS)
 ·obtain⟨h',g',d',tk',os'⟩:=s'
  have eg:g' = s.gens:=mv.gens
  have ed:d' = s.drawn:=mv.drawn
  have eo:os' = s.os:=mv.os
  subst eg;subst ed;subst eo
  have kp:∀b o,s.heap.get? b=some o->h'.get? b=some o:=fun b o e=>mv.heap b o (fun hm=>by
   rcases nH hm with e' | e'
   ·exact absurd e' (Gw (Gq e))
   ·rw [hz] at e';exact absurd e' (Gw (Hb (Gq e)))) (Gs _ (Gs _ e))
  show wpAny _ _ _ _ _ _
  refine I0 ?_
  exact I0 (fin h' tk' kp (q h' tk' S' kp))
end
end LS
namespace L2
open PySem PySem.Spec PyProof.Rows LS
theorem vq:bootBuiltins "set" = some (.type "set"):=by decide +kernel
theorem xu {K:Type}[DecidableEq K]{k:K}{ks:List K}:decide (k∈ks)=true↔k∈ks:=decide_eq_true_iff
theorem lR {P:Program}{w:World}{k:Key}{v:Value}(r:RelV (kV k) v):(aW P w).is k v=true:=by
 cases k with
 | inl i=>obtain⟨t,rfl⟩:=r;exact oF P w i t
 | inr x=>obtain⟨t,rfl⟩:=r;exact oG P w x t
theorem oW {P:Program}{w:World}:∀{ks:List Key} {us:List Value},Vals (ks.map kV) us->Paired (fun v k=>(aW P w).is k v=true) us ks
 | [],_,.nil=>.nil
 | k::ks,_,.cons r t=>.cons (lR r) (oW t)
section
variable {X:Cx}
theorem Inv.Ec {pins:List (Addr×Obj)}{Gd : List (Option V)}{H:Hp}{s:Shared}{n:Nat}(I:Inv X pins Gd H s):Inv X pins Gd H { s with toks:=n }:=⟨I.ok,I.os,I.bare,I.base,I.loc,I.cell,I.free,I.iq,I.pin,I.aZ,I.len⟩
theorem tG:eZ X (.type "set") (fun vs H Q=>vs=[]/\∀l,H l=none->Q (.ref l) (upd H l (bW X.prog X.w l []))):=by
 intro pins s Gd H xs us Q I r h
 obtain⟨rfl,q⟩:=h
 cases r
 refine zW fun h' S kp=>?_
 exact⟨.ref s.heap.objs.size,_,I.laid (t':=s.toks) kp (Gi _) (lQ S),rfl,q _ I.fresh⟩
theorem zX (hc:X.calm=true):eZ X (.type "set") (fun vs H Q=>∃(p:Addr) (ks:List Key),vs=[.ref p]/\aY X.K H p (ks.map kV)/\ks.length+1<scanBound/\∀l,H l=none->Q (.ref l) (upd H l (bW X.prog X.w l (dZ ks)))):=by
 intro pins s Gd H xs us Q I r h
 obtain⟨p,ks,rfl,hp,hz,q⟩:=h
 obtain⟨u,rfl,ru⟩:=vals1 r
 cases (show u=Value.ref p from ru)
 obtain⟨its,hv,pl,_⟩:=I.list hp
 have hm:=oW (P:=X.prog) (w:=X.w) hv
 refine LS.set_list (I.ok.hd hc) pl.isList (by simpa using hm) (by have:=hm.length;simp at this ⊢;omega) fun h' tk S kp=>?_
 exact⟨.ref s.heap.objs.size,_,I.laid (t':=tk) kp (Gi _) (lQ S),rfl,q _ I.fresh⟩
def Ed (P:Program)(w:World)(neg:Bool):R2:=fun x y H Q=>∃a ks k,y=.ref a/\H a=some (bW P w a ks)/\x=kV k/\∀b:Bool,(b=true↔k∈ks)->Q (.bl (if neg then !b else b)) H
theorem Ee:fq X (compareOp .In) (Ed X.prog X.w false):=by
 intro pins s Gd H x y v u Q I rx ry h
 obtain⟨a,ks,k,rfl,ha,rfl,q⟩:=h
 cases ry
 have hk:(aW X.prog X.w).is k v=true:=lR rx
 have S:=(I.pJ ha).setOf
 exact wpAny_inSet_of hk (pL hk) S ⟨.bl _,H,I.Ec,rfl,q _ xu⟩
theorem zY:fq X (compareOp .NotIn) (Ed X.prog X.w true):=by
 intro pins s Gd H x y v u Q I rx ry h
 obtain⟨a,ks,k,rfl,ha,rfl,q⟩:=h
 cases ry
 have hk:(aW X.prog X.w).is k v=true:=lR rx
 have S:=(I.pJ ha).setOf
 exact wpAny_notInSet_of hk (pL hk) S ⟨.bl _,H,I.Ec,rfl,q _ xu⟩
def FI (P:Program)(w:World)(r:V->List V->Hp->VK->Prop)(to:TE)(t:TA):TE:=fun Gd H Q=>to Gd H fun x H1=>(∃a ks,x=.ref a/\H1 a=some (bW P w a ks))/\t Gd H1 fun xs H2=>r x xs H2 Q
variable {o e:Expr}{es:List Expr}{to:TE}{t:TA}{name:Str}{apos cpos:Pos}{id:String}{r:V->List V->Hp->VK->Prop}
theorem vt (slot:Slot "set" name id) (hty:typeOf (.builtin id)=pure (.type "method_descriptor")) (hm:wW X id r) (ho:PE X o to) (ha:PA X (e::es) t)
  (hbase:attributeBase o name X.env (eval o X.env)=eval o X.env:=by rfl)
  (hfew:((backTo cpos (starEach (e::es) X.env)).all (fun x=>!x.1)&&(backToKw cpos (keywordEach [] X.env)).all (fun x=>x.1.isSome)
   && decide ((e::es).length+([]:List Keyword).length+(if ([]:List Keyword).isEmpty then 0 else 1)<30))=true:=by rfl)
  (hline:(apos.endLine == cpos.line)=true:=by rfl) (hs:starEach (e::es) X.env=(false,eval e X.env)::starEach es X.env:=by rfl) (hplain:(backTo cpos (starEach es X.env)).any (·.1)=false:=by rfl) :
  PE X (.Call (.Attribute o name apos) (e::es) [] cpos) (FI X.prog X.w r to t):=by
 intro pins s Gd H Q I h
 refine wpAny_Call_method_late hbase hfew hline rfl (bo (ho pins s Gd H _ I h) fun v s1 ⟨x,H1,I1,r1,ty,q1⟩=>?_)
 obtain⟨a,ks,rfl,hset⟩:=ty
 cases (show v=Value.ref a from r1)
 have S:=(I1.pJ hset).setOf
 refine⟨"set",id,PySem.F.plainAttrs_set,slot,hty,S.typeIs,S.noDict,?_⟩
 have hA:=ha cpos pins s1 Gd H1 _ I1 q1
 rw [hs] at hA ⊢
 refine Calls.callWith_builtin (by show (false||(backTo cpos (starEach es X.env)).any (·.1))=false;rw [hplain] <;> rfl) (Calls.evalArgs_plain ?_)
 exact bo hA fun us s2 ⟨vs,H2,I2,r2,q2⟩=>hm pins s2 Gd H2 (.ref a) vs (.ref a) us Q I2 rfl r2 q2
def ER (P:Program)(w:World):V->List V->Hp->VK->Prop:=fun x vs H Q=>∃a ks k,x=.ref a/\vs=[kV k]/\H a=some (bW P w a ks)/\ks.length+1<scanBound/\Q .bL (upd H a (bW P w a (putIn ks k)))
theorem se:wW X "set.add" (ER X.prog X.w):=by
 intro pins s Gd H x xs v us Q I rx r h
 obtain⟨a,ks,k,rfl,rfl,ha,hz,q⟩:=h
 cases (show v=Value.ref a from rx)
 obtain⟨u,rfl,ru⟩:=vals1 r
 refine Bp (lR ru) (I.pJ ha) hz fun h' b S'=>?_
 refine⟨.bL,_,I.write (t':=s.toks+1) (x:=a) (e:=a) (by rw [ha];exact trivial) (.inl rfl) (fun c u' hc hu=>b.extBut c u' hc hu) ?_ (lQ S'),rfl,q⟩
 obtain⟨o,_,_,_,So⟩:=S'
 exact⟨o,So.at_⟩
end
structure uv (K:Gh) (mg:Str->Option Value) (aD d0 d1 d2 d3 d4:Addr):Prop where
 tab:Bc K mg "DEED_PARTS" aD [("put",d0),("copy",d1),("add",d2),("read",d3),("tell",d4)]
 q0:KTup K d0 ["name", "number"]
 q1:KTup K d1 ["name", "name"]
 q2:KTup K d2 ["name", "number"]
 q3:KTup K d3 ["name"]
 q4:KTup K d4 ["name"]
def eD:cH->List Str
 | .put x _=>[x]
 | .copy x y=>[x,y]
 | .add x _=>[x]
 | .read x=>[x]
 | .tell x=>[x]
def ku:End->List Str
 | .cE _ x _ _ _=>[x]
 | _=>[]
def pNames (p:Piece):List Str:=p.1.flatMap eD++ku p.2
def bU (ps:List Piece):List Str:=ps.flatMap pNames
def kD:cH->List Str
 | .put ..=>["name", "number"]
 | .copy ..=>["name", "name"]
 | .add ..=>["name", "number"]
 | .read ..=>["name"]
 | .tell ..=>["name"]
def wD:cH->Str
 | .put .. => "put"
 | .copy .. => "copy"
 | .add .. => "add"
 | .read .. => "read"
 | .tell .. => "tell"
theorem yu (d:cH):∃xs,jg d=.str (wD d)::xs/\xs.length<=1000/\pick "name" xs (kD d)=(eD d).map V.str:=by
 have h2:¬("number" : Str) = "name" := by decide +kernel
 cases d with
 | put x n=>exact⟨_,rfl,by show 2<=1000;decide,by simp [pick,kD,eD,h2]⟩
 | copy x y=>exact⟨_,rfl,by show 2<=1000;decide,by simp [pick,kD,eD]⟩
 | add x n=>exact⟨_,rfl,by show 2<=1000;decide,by simp [pick,kD,eD,h2]⟩
 | read x=>exact⟨_,rfl,by show 1<=1000;decide,by simp [pick,kD,eD]⟩
 | tell x=>exact⟨_,rfl,by show 1<=1000;decide,by simp [pick,kD,eD]⟩
theorem yw (e:End):∃xs,fg e=.str (wE e)::xs/\xs.length<=1000/\pick "name" xs (kE e)=(ku e).map V.str:=by
 have h1:¬("piece" : Str) = "name" := by decide +kernel
 have h2:¬("number" : Str) = "name" := by decide +kernel
 cases e with
 | stop=>exact⟨[],rfl,by decide,rfl⟩
 | go p=>exact⟨_,rfl,by show 1<=1000;decide,by simp [pick,kE,ku,h1]⟩
 | cE b x n p q=>exact⟨_,rfl,by show 4<=1000;decide,by simp [pick,kE,ku,h1,h2]⟩
theorem lS {k:Str}{d:Addr}{D:List (Str×Addr)}:KTD.datumAt k ((k,d)::D)=some d:=by
 show (if decide (k=k)=true then some d else KTD.datumAt k D)=some d
 rw [if_pos (decide_eq_true rfl)]
theorem fF {k x:Str}{d:Addr}{D:List (Str×Addr)}{o:Option Addr}(h:¬k=x)(e:KTD.datumAt k D=o):KTD.datumAt k ((x,d)::D)=o:=by
 show (if decide (k=x)=true then some d else KTD.datumAt k D)=o
 rw [if_neg (by rw [decide_eq_false h];decide)]
 exact e
theorem uv.at_ {K:Gh}{mg:Str->Option Value}{aD d0 d1 d2 d3 d4:Addr}(G:uv K mg aD d0 d1 d2 d3 d4)(d:cH) :
  ∃s,KTD.datumAt (wD d) [(("put" : Str),d0),("copy",d1),("add",d2),("read",d3),("tell",d4)]=some s/\KTup K s (kD d):=by
 cases d with
 | put x n=>exact⟨d0,lS,G.q0⟩
 | copy x y=>exact⟨d1,fF (show ¬(("copy" : Str) = "put") by decide +kernel) lS,G.q1⟩
 | add x n=>exact⟨d2,fF (show ¬(("add" : Str) = "put") by decide +kernel) (fF (show ¬(("add" : Str) = "copy") by decide +kernel) lS),G.q2⟩
 | read x=>exact⟨d3,fF (show ¬(("read" : Str) = "put") by decide +kernel) (fF (show ¬(("read" : Str) = "copy") by decide +kernel) (fF (show ¬(("read" : Str) = "add") by decide +kernel) lS)),G.q3⟩
 | tell x=>exact⟨d4,fF (show ¬(("tell" : Str) = "put") by decide +kernel) (fF (show ¬(("tell" : Str) = "copy") by decide +kernel) (fF (show ¬(("tell" : Str) = "add") by decide +kernel) (fF (show ¬(("tell" : Str) = "read") by decide +kernel) lS))),G.q4⟩
theorem Bq (acc ys:List Str):(ys.map (Sum.inr:Str->Key)).foldl LS.putIn (acc.map Sum.inr)=(ys.foldl LS.putIn acc).map Sum.inr:=by
 induction ys generalizing acc with
 | nil=>rfl
 | cons y ys ih =>
  rw [GS,HI,HI,<-ih]
  congr 1
  unfold LS.putIn
  by_cases h:y∈acc
  ·rw [if_pos h,if_pos (GH.mpr ⟨y,h,rfl⟩)]
  ·rw [if_neg h,if_neg (fun z=>by obtain⟨x,hx,e⟩:=GH.mp z;cases e;exact h hx),Gz];rfl
theorem yx (ys:List Str):dZ (ys.map (Sum.inr:Str->Key))=(dZ ys).map Sum.inr:=Bq [] ys
theorem CZ (ys:List Str):(ys.map (Sum.inr:Str->Key)).map kV=ys.map V.str:=by rw [Hu];rfl
theorem tH {xs:List Str}{m:Nat}{ps:List Piece}(ok:cL xs m ps):∀x∈bU ps,x∈xs:=fun x hx=>by
 obtain⟨p,hp,hx⟩:=List.mem_flatMap.mp hx
 rcases GW.mp hx with h | h
 ·obtain⟨d,hd,h⟩:=List.mem_flatMap.mp h
  have dk:=(ok.iP p hp).2 d hd
  cases d with
  | put a n=>rw [Gp.mp h];exact dk.1
  | copy a b =>
   rcases Gu.mp h with rfl | h
   ·exact dk.1
   ·rw [Gp.mp h];exact dk.2
  | add a n=>rw [Gp.mp h];exact dk.1
  | read a=>rw [Gp.mp h];exact dk
  | tell a=>rw [Gp.mp h];exact dk
 ·have ek:=ok.ends p hp
  obtain⟨ds,e⟩:=p
  cases e with
  | stop=>cases h
  | go q=>cases h
  | cE b a n q r=>rw [Gp.mp h];exact ek.1
theorem tI {α β : Type}{l:List α}{f:α->List β}{i:Nat}{x:α}(h:l[i]?=some x):(l.take (i+1)).flatMap f=(l.take i).flatMap f++f x:=by
 rw [G1,h,List.flatMap_append];simp
theorem mR {α β : Type}{l:List α}{f:α->List β}(i:Nat):((l.take i).flatMap f).length<=(l.flatMap f).length:=by
 conv=>rhs;rw [<-List.take_append_drop i l,List.flatMap_append,Gr]
 exact HX _ _
def nK:Sp:=fun vs H Q _=>∃(plv:V) (ps:List Piece) (xs:List Str) (m:Nat),vs=[plv]/\aX H plv (cN ps)/\cL xs m ps/\xs.length<64/\(bU ps).length<=4000 /\
 ∀(t:Addr) (ss:List Str) (H':Hp),H' t=some (.tup (ss.map V.str))->ss.Perm (dZ (bU ps))->sortedS ss=true->ss.length<64->ar H H'->Q (.ref t) H'
theorem Br {xs:List Str}{m:Nat}{ps:List Piece}(ok:cL xs m ps):(dZ (bU ps)).length<=xs.length :=
 sub_len (vo _) fun x hx=>tH ok x (tF.mp hx)
end L2
namespace PySem
theorem ud:typeLookup (.type "tuple") "keys" = pure none:=by rw [typeLookup_type,builtinLookup_eq_fast];kernel_rfl
section
variable {prog:Program}{w:World}{A:Around}{E:Value->Shared->Prop}{s:Shared}
theorem ue {a:Addr}{xs:Array Value}{k:Nat}{sl:Array (Option Value)}{name:Str}{u:Tok}{Q:Value->Shared->Prop}(hx:s.heap.get? a=some { cls:=.type "tuple",dict:=none,data:=.seq xs k,slots:=sl })
  (miss:typeLookup (.type "tuple") name=pure none) (plain:(["__module__", "__name__", "__qualname__", "__doc__", "__annotations__"]:List Str).contains name=false) (calm:A.handled=none) (fits:name.length+100<=sizeLine)
  (fin:∀g tk e,Heap.NewExcOf s.heap g e "AttributeError" -> E (.ref e) { s with heap:=g,toks:=tk }):wpAny (model prog w) A (getAttrBy (.ref a) (.str name u) false) Q E s:=by
 obtain⟨hp,gs,dr,tk,os⟩:=s
 have hT:∀tk',(⟨hp,gs,dr,tk',os⟩:Shared).TypeIs (.ref a) "tuple" := fun _=>⟨_,hx,rfl⟩
 have f1:=sub_AttributeError
 have f3:=F.slot_tuple_getattribute.lookup
 have f4:=F.slot_tuple_getattribute.bind (.ref a)
 have f5:=am_tuple_getattr_none
 unfold getAttrBy
 repeat (any_goals (first | exact hT _ | assumption | ((with_reducible show wpAny _ _ (call (Value.builtin "tuple.__getattribute__") _ _) _ _ _);refine call_meets F.slot_tuple_getattribute (hT _) am_entry_tuple_getattribute (F.args_tuple_getattribute_2 _ _) (meets_getattribute_miss_tuple a xs k sl name _ miss plain fits) ⟨hx,calm,fun g t e ne=>?_⟩) | wp_step))
 obtain⟨t',u',there⟩:=ne.there
 show wpAny _ _ (getattributeRaised _ _ _ _ _ _ _) _ _ _
 unfold getattributeRaised
 repeat (any_goals (first | wp_step | assumption))
 exact fin g _ e ne.of
theorem qL {a:Addr}{xs:Array Value}{k:Nat}{sl:Array (Option Value)}{Q:Option Value->Shared->Prop}(hx:s.heap.get? a=some { cls:=.type "tuple",dict:=none,data:=.seq xs k,slots:=sl })(calm:A.handled=none)
  (fin:∀g tk,(∀b o,s.heap.get? b=some o->g.get? b=some o)->Q none { s with heap:=g,toks:=tk }):wpAny (model prog w) A (getAttr? (.ref a) "keys") Q E s:=by
 unfold getAttr? getAttrBy?
 refine IZ (wpAny_mkText ?_)
 refine IZ (Jn ?_)
 refine ue (s:={ s with toks:=s.toks+1 }) hx ud (by decide +kernel) calm (by decide +kernel) fun g tk e ne=>?_
 obtain⟨ob,vs,he,hc,_⟩:=ne.there
 have hT:({ s with heap:=g,toks:=tk }:Shared).TypeIs (.ref e) "AttributeError" := ⟨ob,he,hc⟩
 refine IZ (Jt hT sub_AttributeError ?_)
 exact I0 (fin g tk ne.keeps)
end
end PySem
namespace PySem
theorem lT:entryFor table "dict.update.loop" = some Builtin.«dict.update.loop»:=entryFor_of_tree (by kernel_rfl)
theorem gZ:plainId "dict.update.loop" = true:=by decide +kernel
section
variable {prog:Program}{w:World}{K:Type}[DecidableEq K]{knd:KeyKind prog w K}{A:Around}{s:Shared}
def vv (knd:KeyKind prog w K)(h:Heap)(q:Addr)(p:K×Value):Prop:=∃key n sl,h.get? q=some { cls:=.type "tuple",dict:=none,data:=.seq #[key,p.2] n,slots:=sl }/\knd.is p.1 key=true
theorem uf {E:Value->Shared->Prop}{q:Addr}{x y:Value}{n:Nat}{sl:Array (Option Value)}{Q:List Value->Shared->Prop}(hq:s.heap.get? q=some { cls:=.type "tuple",dict:=none,data:=.seq #[x,y] n,slots:=sl })
  (fin:Q [x,y] s):wpAny (model prog w) A (Builtin.Dict.pairItems (.ref q)) Q E s:=by
 have hT:s.TypeIs (.ref q) "tuple" := ⟨_,hq,rfl⟩
 unfold Builtin.Dict.pairItems
 refine IZ (Jm hT ?_)
 rw [if_pos (by decide)]
 unfold seqItems?
 obtain⟨hp,gs,dr,tk,os⟩:=s
 repeat (any_goals (first | wp_step | assumption))
theorem yy {E:Value->Shared->Prop}{d I ax:Addr}{items:Array Value}{rs:List (K×Value)}{R:Result->Shared->Prop}{h0:Heap}(calm:A.handled=none)(ndI:d≠I)(nda:d≠ax)(nax:ax≠I)(len:rs.length=items.size)(bK:rs.length<=sizeLine)
  (pairs:∀(i:Nat) (p:K×Value),rs[i]?=some p->∃q,items[i]?=some (.ref q)/\q≠d/\q≠I/\vv knd h0 q p)
  (fin:∀(g:Heap) (tk:Nat),g.DictOf knd d (merged [] rs)->(∀b o,b≠d->b≠I->h0.get? b=some o->g.get? b=some o)->R (.ok (.ret .none)) { s with heap:=g,toks:=tk }) :
  ∀(m i:Nat) (h:Heap) (tk:Nat) (t:Tok),rs.length-i=m->i<=rs.length->h.IsTupleIter I ax i->h.IsTuple ax items->h.DictOf knd d (merged [] (rs.take i))->(∀b o,b≠d->b≠I->h0.get? b=some o->h.get? b=some o) ->
   codeAny (model prog w) A (.builtin "dict.update.loop" ⟨[.ref d,.ref I,.int i t,.none],[]⟩) R { s with heap:=h,toks:=tk }:=by
 have W:=Walks.tuple (prog:=prog) (w:=w) (A:=A.in1) calm I ax nax items
 intro m
 induction m with
 | zero =>
  intro i h tk t em hi it ta dd kp
  have ei:i=rs.length:=by omega
  subst ei
  refine Jh lT ?_
  rw [Hm gZ _]
  show wpAny _ A.in1 (pyNext (.ref I) >>= _) _ _ _
  refine IZ (W.done { s with heap:=h,toks:=tk } _ _ ⟨by rw [<-len];exact it,ta⟩ fun g tk' kg=>?_)
  show wpAny _ A.in1 (Builtin.Dict.addKeywords d [] >>= fun _=>ret Value.none) _ _ _
  refine IZ (I0 ?_)
  refine I0 (fin g tk' ?_ fun b o n1 n2 e=>kg b o (by simpa using n2) (kp b o n1 n2 e))
  rw [G7] at dd
  obtain⟨ob,es,ep,ho,rest⟩:=dd
  exact⟨ob,es,ep,kg d ob (by simpa using ndI) ho,rest⟩
 | succ m ih =>
  intro i h tk t em hi it ta dd kp
  have hlt:i<rs.length:=by omega
  have hp:rs[i]?=some rs[i]:=by simp [hlt]
  generalize rs[i]=p at hp
  obtain⟨q,hq,nqd,nqI,key,n,sl,hqo,hkey⟩:=pairs i p hp
  refine Jh lT ?_
  rw [Hm gZ _]
  show wpAny _ A.in1 (pyNext (.ref I) >>= _) _ _ _
  refine IZ (W.item i { s with heap:=h,toks:=tk } _ _ (by omega) ⟨it,ta⟩ fun v g tk' hv st kg=>?_)
  rw [hq] at hv
  cases hv
  have kp':∀b o,b≠d->b≠I->h0.get? b=some o->g.get? b=some o:=fun b o n1 n2 e=>kg b o (by simpa using n2) (kp b o n1 n2 e)
  refine IZ (Jc (IZ (wpAny_tryCatch (uf (kp' q _ nqd nqI hqo) ?_))))
  have dd':g.DictOf knd d (merged [] (rs.take i)):=by
   obtain⟨ob,es,ep,ho,rest⟩:=dd
   exact⟨ob,es,ep,kg d ob (by simpa using ndI) ho,rest⟩
  refine Jc (wpAny_dictSet_pairs hkey dd' (fun g2 dd2 same=>?_) ?_)
  ·refine I0 ⟨plainId_quiet gZ _,?_⟩
   rw [<-merged_take_succ [] rs i p hp] at dd2
   have k2:∀b o,b≠d->g.get? b=some o->g2.get? b=some o:=fun b o nb e=>(same.2 b nb).trans e
   refine ih (i+1) g2 _ _ (by omega) hlt ?_ ?_ dd2 fun b o n1 n2 e=>k2 b o n1 (kp' b o n1 n2 e)
   ·exact st.1.at fun o e=>k2 I o ndI.symm e
   ·exact st.2.at fun o e=>k2 ax o nda.symm e
  ·have e:=merged_length_le ([]:List (K×Value)) (rs.take i)
   rw [G9] at e
   simp only [HV] at e
   omega
open PySem.Calls in
theorem ug {E:Value->Shared->Prop}{ax:Addr}{items:Array Value}{na:Nat}{sa:Array (Option Value)}{rs:List (K×Value)}{Q:Value->Shared->Prop}(calm:A.handled=none)
  (hx:s.heap.get? ax=some { cls:=.type "tuple",dict:=none,data:=.seq items na,slots:=sa }) (len:rs.length=items.size) (bK:rs.length<=sizeLine)
  (pairs:∀(i:Nat) (p:K×Value),rs[i]?=some p->∃q,items[i]?=some (.ref q)/\vv knd s.heap q p)
  (fin:∀(g:Heap) (tk:Nat),g.DictOf knd s.heap.objs.size (merged [] rs)->(∀b o,s.heap.get? b=some o->g.get? b=some o)->Q (.ref s.heap.objs.size) { s with heap:=g,toks:=tk }) :
  wpAny (model prog w) A (call (.type "dict") [.ref ax]) Q E s:=by
 refine callType_codes (Q₁:=fun ob s1=>ob=.ref s.heap.objs.size/\s1={ s with heap:=s.heap.push { cls:=.type "dict",data:=.dict #[] } }) F.kt_called_dict (F.kt_typeCall_dict_1 _) F.entry_dict_init (kt_code_dict_new _ ⟨rfl,rfl⟩) fun ob s1 e1=>?_
 obtain⟨rfl,rfl⟩:=e1
 have fresh:(s.heap.push { cls:=.type "dict",data:=.dict #[] }).DictOf knd s.heap.objs.size []:=Heap.DictOf.new s.heap
 have hx1:=Gs { cls:=.type "dict",data:=.dict #[] } hx
 refine⟨fresh.typeIs,F.args_dict_init_2 _ _,?_⟩
 have hT:({ s with heap:=s.heap.push { cls:=.type "dict",data:=.dict #[] } }:Shared).TypeIs (.ref ax) "tuple" := ⟨_,hx1,rfl⟩
 unfold Builtin.«dict.__init__»
 refine IZ ?_
 unfold Builtin.Dict.selfAndRest
 refine IZ (wpAny_notOrdered_dict fresh.typeIs (I0 ?_))
 show wpAny _ _ (Builtin.Dict.updateFrom "dict.__init__" s.heap.objs.size (.ref ax) [] .none) _ _ _
 unfold Builtin.Dict.updateFrom
 refine IZ (Jm hT ?_)
 rw [if_pos (by decide)]
 refine IZ (qL hx1 calm fun g tk kg=>?_)
 rw [if_pos (show (none:Option Value).isNone=true from rfl)]
 refine IZ (Ji ?_)
 have hxg:=kg _ _ hx1
 have hta:g.IsTuple ax items:=⟨_,hxg,rfl,na,rfl⟩
 refine IZ (Jx hta ?_)
 have dg:g.DictOf knd s.heap.objs.size []:=by
  obtain⟨ob,es,ep,ho,rest⟩:=fresh
  exact⟨ob,es,ep,kg _ _ ho,rest⟩
 have ltd:s.heap.objs.size<g.objs.size:=by
  obtain⟨ob,es,ep,ho,rest⟩:=dg
  exact Gq ho
 have lta:ax<g.objs.size:=Gq hxg
 have ltx:ax<s.heap.objs.size:=Gq hx
 have kg':∀b o,s.heap.get? b=some o->(g.push { cls:=.type "tuple_iterator",data:=.fields #[.ref ax,.int 0 0] }).get? b=some o:=fun b o e=>Gs _ (kg b o (Gs _ e))
 refine I0 ⟨plainId_quiet gZ _,?_⟩
 refine yy (E:=E) (knd:=knd) (s:=s) (A:=A.in1) (items:=items) (rs:=rs) (h0:=g.push { cls:=.type "tuple_iterator",data:=.fields #[.ref ax,.int 0 0] }) calm (Gw ltd) (Hq ltx) (Gw lta) len bK (fun i p hp=>?_) (fun g2 tk2 dd2 k2=>⟨rfl,fin g2 tk2 dd2 fun b o e=>k2 b o (Gw (Gq e)) (Gw (Iw (Gq e) ltd)) (kg' b o e)⟩) rs.length 0 _ _ _ (Nat.sub_zero _) (GK _) ⟨_,Gx _ rfl,rfl,rfl⟩ (hta.push _) (dg.push _) fun b o _ _ e=>e
 obtain⟨q,hq,key,n,sl,hqo,hkey⟩:=pairs i p hp
 have hql:=Gq hqo
 exact⟨q,hq,Gw hql,Gw (Iw hql ltd),key,n,sl,kg' q _ hqo,hkey⟩
end
end PySem
namespace L2
open PySem PySem.Spec PyProof.Rows
theorem Cj:∀(kvs:List (Key×V)) (P:Nat->Key×Value->Prop),(∀(i:Nat) (k:Key) (v:V),kvs[i]?=some (k,v)->∃u,RelV v u/\P i (k,u))->∃rs:List (Key×Value),KV kvs rs/\∀(i:Nat) (p:Key×Value),rs[i]?=some p->P i p
 | [],_,_=>⟨[],.nil,fun i p h=>by simp at h⟩
 | (k,v)::r,P,h=>by
  obtain⟨u,ru,hu⟩:=h 0 k v rfl
  obtain⟨rs,kr,hr⟩:=Cj r (fun i=>P (i+1)) fun i k' v' e=>h (i+1) k' v' (by simpa using e)
  refine⟨(k,u)::rs,.cons ⟨rfl,ru⟩ kr,fun i p e=>?_⟩
  cases i with
  | zero=>cases (GL.inj e);exact hu
  | succ i=>exact hr i p (by simpa using e)
theorem vw:∀{xs:List V} {us:List Value} {j:Nat} {x:V},Vals xs us->xs[j]?=some x->∃u,us[j]?=some u/\RelV x u
 | _,_,_,_,.nil,e=>by simp at e
 | _,_,0,_,.cons r _,e=>by
  cases (GL.inj e)
  exact⟨_,rfl,r⟩
 | _,_,j+1,x,.cons _ t,e=>by
  obtain⟨u,h1,h2⟩:=vw (j:=j) (x:=x) t (by simpa using e)
  exact⟨u,by simpa using h1,h2⟩
section
variable {X:Cx}
theorem iQ (hc:X.calm=true):eZ X (.type "dict") (fun vs H Q=>∃(a:Addr) (xs:List V) (kvs:List (Key×V)),vs=[.ref a]/\H a=some (.tup xs)/\xs.length=kvs.length /\
  (∀(i:Nat) (k:Key) (v:V),kvs[i]?=some (k,v)->∃q,xs[i]?=some (.ref q)/\H q=some (.tup [kV k,v]))/\(kvs.map (·.1)).Nodup/\∀d,H d=none->Q (.ref d) (upd H d (.dK kvs))):=by
 intro pins s Gd H vs us Q I r h
 obtain⟨a,xs,kvs,rfl,ha,hl,hp,nd,q⟩:=h
 obtain⟨u,rfl,ru⟩:=vals1 r
 cases (show u=Value.ref a from ru)
 obtain⟨hz,its,rv,⟨c,dct,dat,sl⟩,h1,h2,n,h3,h4⟩:=(show cA X.prog X.w H s.heap a (.tup xs) from I.aZ a _ ha)
 dsimp only at h2 h3 h4
 subst h2 h3 h4
 have hil:its.length=kvs.length:=by rw [<-rv.length];exact hl
 obtain⟨rs,rel,prs⟩:=Cj kvs (fun i p=>∃q,its.toArray[i]?=some (.ref q)/\vv (aW X.prog X.w) s.heap q p) fun i k v e=>by
  obtain⟨q,e1,e2⟩:=hp i k v e
  obtain⟨_,its2,rv2,⟨c2,dct2,dat2,sl2⟩,g1,g2,n2,g3,g4⟩:=(show cA X.prog X.w H s.heap q (.tup [kV k,v]) from I.aZ q _ e2)
  dsimp only at g2 g3 g4
  subst g2 g3 g4
  obtain⟨key,u2,rfl,rk,ru2⟩:=vals2 rv2
  refine⟨u2,ru2,q,?_,key,n2,sl2,g1,mj rk⟩
  obtain⟨w',hw,rw'⟩:=vw rv e1
  cases (show w' = Value.ref q from rw')
  simpa using hw
 have hkl:kvs.length<=sizeLine:=by rw [<-hl];exact hz
 have ndr:(rs.map (·.1)).Nodup:=by rw [<-rel.keys];exact nd
 refine ug (knd:=aW X.prog X.w) (rs:=rs) (I.ok.hd hc) h1 (by rw [<-rel.length,<-hil];simp) (by rw [<-rel.length];exact hkl) prs fun g tk dd kg=>?_
 rw [merged_nil_of_nodup rs ndr] at dd
 exact⟨.ref s.heap.objs.size,_,I.laid (a:=s.heap.objs.size) (o:=.dK kvs) (t':=tk) kg (Gi _) (qu hkl (beq_eq_false_iff_ne.mpr (Ne.symm (Gw I.big))) rel dd),rfl,q _ (I.aZ.fresh (Gi _))⟩
end
def qM (a b:Str):Prop:=a.cps.toList<=b.cps.toList
theorem zZ {a b c:Str}(h:qM a b)(g:qM b c):qM a c:=List.le_trans h g
theorem Bs {a b:Str}(h:qM a b)(g:qM b a):a=b:=by
 have e:a.cps.toList=b.cps.toList:=List.le_antisymm h g
 have e2:a.cps=b.cps:=by rw [<-Array.toArray_toList (xs:=a.cps),e,Array.toArray_toList]
 cases a
 cases b
 cases e2
 rfl
theorem tJ:∀(l:List Str) (p:Str),risingS p l=true->(p::l).Pairwise qM
 | [],p,_=>by simp
 | x::r,p,h=>by
  have h':(!ltCps x.cps.toList p.cps.toList&&risingS x r)=true:=h
  rw [G5,Bool.not_eq_true'] at h'
  have h1:qM p x:=by
   have:=h'.1
   rw [ltCps_eq] at this
   exact of_decide_eq_false this
  have ih:=tJ r x h'.2
  refine Hy.cons (fun y hy=>?_) ih
  rcases Gu.mp hy with e | hy
  ·rw [e];exact h1
  ·exact zZ h1 ((ID.mp ih).1 y hy)
theorem tK {l:List Str}(h:sortedS l=true):l.Pairwise qM:=by
 cases l with
 | nil=>exact Hy.nil
 | cons x r=>exact tJ r x h
structure kP (ss:List Str):Prop where
 pw:ss.Pairwise qM
 nd:ss.Nodup
theorem kP.tail {x:Str}{r:List Str}(h:kP (x::r)):kP r:=⟨(ID.mp h.pw).2,(Hr.mp h.nd).2⟩
theorem kP.unique:∀{l m:List Str},kP l->kP m->(∀x,x∈l↔x∈m)->l=m
 | [],[],_,_,_=>rfl
 | [],b::m,_,_,h=>absurd ((h b).mpr (GB ..)) (by simp)
 | a::l,[],_,_,h=>absurd ((h a).mp (GB ..)) (by simp)
 | a::l,b::m,hl,hm,h=>by
  have e:a=b:=by
   rcases Gu.mp ((h a).mp (GB ..)) with e | h1
   ·exact e
   ·rcases Gu.mp ((h b).mpr (GB ..)) with e | h2
    ·exact e.symm
    ·exact Bs ((ID.mp hl.pw).1 b h2) ((ID.mp hm.pw).1 a h1)
  subst e
  have na:=(Hr.mp hl.nd).1
  have nb:=(Hr.mp hm.nd).1
  rw [kP.unique hl.tail hm.tail fun x=>⟨fun hx=>?_,fun hx=>?_⟩]
  ·rcases Gu.mp ((h x).mp (GC _ hx)) with e | h1
   ·exact absurd (by rw [<-e];exact hx) na
   ·exact h1
  ·rcases Gu.mp ((h x).mpr (GC _ hx)) with e | h1
   ·exact absurd (by rw [<-e];exact hx) nb
   ·exact h1
theorem kP.filter {l:List Str}(h:kP l)(p:Str->Bool):kP (l.filter p):=⟨h.pw.filter p,h.nd.filter p⟩
abbrev Sx:=Option Int×Option Int
def fi:Sx:=(none,none)
structure jF (K:Gh) (mg:Str->Option Value) (aA:Addr):Prop where
 tD:mg "ALL" = some (.ref aA)
 at_:∃dc n sl,K.lookup aA=some ⟨.type "tuple",dc,.seq #[.none,.none] n,sl⟩
theorem jF.sq {K:Gh}{mg:Str->Option Value}{aA:Addr}(h:jF K mg aA)(H:Hp):ay K H aA [.bL,.bL]:=by
 obtain⟨dc,n,sl,e⟩:=h.at_
 exact .inr ⟨_,#[.none,.none],n,e,rfl,rfl,by decide,.cons rfl (.cons rfl .nil)⟩
def SH (H:Hp)(v:V)(s:Sx):Prop:=∃q,v=.ref q/\H q=some (.tup [vO s.1,vO s.2])
def SV (aA:Addr)(H:Hp)(v:V)(s:Sx):Prop:=SH H v s\/(v=.ref aA/\s=fi)
def dS (s:Sx):PyData:=.tuple [dO s.1,dO s.2]
theorem SH.rd {H:Hp}{v:V}{s:Sx}(h:SH H v s):aX H v (dS s):=by
 obtain⟨q,rfl,e⟩:=h
 exact .tup e (.cons (DY _) (.cons (DY _) .nil))
theorem SH.bp {H H':Hp}{v:V}{s:Sx}(h:SH H v s)(k:∀p xs,H p=some (.tup xs)->H' p=some (.tup xs)):SH H' v s:=by
 obtain⟨q,e,h⟩:=h
 exact⟨q,e,k _ _ h⟩
theorem SV.bp {aA:Addr}{H H':Hp}{v:V}{s:Sx}(h:SV aA H v s)(k:∀p xs,H p=some (.tup xs)->H' p=some (.tup xs)):SV aA H' v s:=h.elim (fun h=>.inl (h.bp k)) .inr
theorem SV.sq {K:Gh}{mg:Str->Option Value}{aA:Addr}{H:Hp}{v:V}{s:Sx}(g:jF K mg aA)(h:SV aA H v s):∃q,v=.ref q/\ay K H q [vO s.1,vO s.2]:=by
 rcases h with ⟨q,e,h⟩ | ⟨e,rfl⟩
 ·exact⟨q,e,ay.of h⟩
 ·exact⟨aA,e,g.sq H⟩
theorem xw {H:Hp}{v:V}{o:Option Int}(h:aX H v (dO o)):v=vO o:=by
 cases o with
 | none=>cases h;rfl
 | some i=>exact h.int_inv
structure Tb (aA:Addr) (H:Hp) (kvs:List (Key×V)) (ks:List Str) (T:Str->Sx):Prop where
 keys:kvs.map (·.1)=ks.map Sum.inr
 nd:ks.Nodup
 val:∀x:Str,(cX kvs (Sum.inr x)=none/\T x=fi/\¬x∈ks)\/(∃v,cX kvs (Sum.inr x)=some v/\SV aA H v (T x)/\x∈ks)
def gC (T:Str->Sx)(x:Str)(s:Sx):Str->Sx:=fun y=>if y=x then s else T y
theorem Tb.bp {aA:Addr}{H H':Hp}{kvs:List (Key×V)}{ks:List Str}{T:Str->Sx}(h:Tb aA H kvs ks T)(k:∀p xs,H p=some (.tup xs)->H' p=some (.tup xs)):Tb aA H' kvs ks T :=
 ⟨h.keys,h.nd,fun x=>(h.val x).elim .inl fun ⟨v,e,s,m⟩=>.inr ⟨v,e,s.bp k,m⟩⟩
theorem Tb.put {aA:Addr}{H:Hp}{kvs:List (Key×V)}{ks:List Str}{T:Str->Sx}(h:Tb aA H kvs ks T){v:V}{s:Sx}(x:Str)(hv:SV aA H v s) :
  ∃ks',Tb aA H (putK kvs (Sum.inr x) v) ks' (gC T x s)/\ks'.length<=ks.length+1/\∀y,y∈ks'↔y∈ks\/y=x:=by
 have vals:∀(ks':List Str),(∀y,y∈ks'↔y∈ks\/y=x)->∀y:Str,(cX (putK kvs (Sum.inr x) v) (Sum.inr y)=none/\gC T x s y=fi/\¬y∈ks')\/(∃u,cX (putK kvs (Sum.inr x) v) (Sum.inr y)=some u/\SV aA H u (gC T x s y)/\y∈ks'):=by
  intro ks' hk y
  rw [ph]
  unfold gC
  by_cases e:y=x
  ·subst e
   rw [if_pos rfl,if_pos rfl]
   exact .inr ⟨v,rfl,hv,(hk y).mpr (.inr rfl)⟩
  ·rw [if_neg (fun z=>e (Sum.inr.inj z)),if_neg e]
   rcases h.val y with ⟨a,b,c⟩ | ⟨u,a,b,c⟩
   ·exact .inl ⟨a,b,fun z=>((hk y).mp z).elim c e⟩
   ·exact .inr ⟨u,a,b,(hk y).mpr (.inl c)⟩
 rcases zH (kvs:=kvs) (k:=(Sum.inr x:Key)) (v:=v) with ⟨e1,hm⟩ | ⟨e1,hn⟩
 ·have hx:x∈ks:=by
   rw [h.keys] at hm
   obtain⟨y,hy,e⟩:=GH.mp hm
   cases e
   exact hy
  have hk:∀y,y∈ks↔y∈ks\/y=x:=fun y=>⟨.inl,fun z=>z.elim id fun e=>by rw [e];exact hx⟩
  exact⟨ks,⟨by rw [e1];exact h.keys,h.nd,vals ks hk⟩,Hh _,hk⟩
 ·have hx:¬x∈ks:=fun z=>hn (by rw [h.keys];exact GH.mpr ⟨x,z,rfl⟩)
  have hk:∀y,y∈ks++[x]↔y∈ks\/y=x:=fun y=>by simp
  refine⟨ks++[x],⟨by rw [e1,h.keys,Gz];rfl,?_,vals _ hk⟩,by simp,hk⟩
  rw [Hv]
  refine⟨h.nd,by simp,fun a ha b hb=>?_⟩
  rw [Gp] at hb
  subst hb
  exact fun z=>hx (by rw [<-z];exact ha)
def dF (T:Str->Sx)(x:Str):PyData:=.tuple [.str x,dS (T x)]
def FV (H:Hp)(v:V)(T:Str->Sx):Prop:=∃(p:Addr) (xs:List V) (ss:List Str),v=.ref p/\H p=some (.tup xs)/\kP ss/\(∀x,x∈ss↔T x≠fi)/\br H xs (ss.map (dF T))
def gO (T:Str->Sx)(ss:List Str):PyData:=.tuple (ss.map (dF T))
theorem ou (T:Str->Sx):∀ss:List Str,cJ (ss.map (dF T))=true
 | []=>rfl
 | x::ss=>by
  show (cC (dF T x)&&cJ (ss.map (dF T)))=true
  rw [ou T ss]
  show ((true&&((cC (dO (T x).1)&&(cC (dO (T x).2)&&true))&&true))&&true)=true
  cases (T x).1 <;> cases (T x).2 <;> rfl
theorem FV.bp {H H':Hp}{v:V}{T:Str->Sx}(h:FV H v T)(k:∀p xs,H p=some (.tup xs)->H' p=some (.tup xs)):FV H' v T:=by
 obtain⟨p,xs,ss,e,hp,hs,hm,r⟩:=h
 exact⟨p,xs,ss,e,k _ _ hp,hs,hm,r.bp k (ou T ss)⟩
theorem FV.same {H H':Hp}{v:V}{T:Str->Sx}(h:FV H v T)(s:ar H H'):FV H' v T:=h.bp fun p xs e=>s _ _ e
theorem FV.tb {H:Hp}{xs:List V}{T:Str->Sx}{ss:List Str}(aA:Addr)(hs:kP ss)(hm:∀x,x∈ss↔T x≠fi)(r:br H xs (ss.map (dF T))) :
  ∃kvs:List (Key×V),xs.length=kvs.length/\(∀(i:Nat) (k:Key) (v:V),kvs[i]?=some (k,v)->∃q,xs[i]?=some (.ref q)/\H q=some (.tup [kV k,v]))/\(kvs.map (·.1)).Nodup/\Tb aA H kvs ss T:=by
 have go:∀(ss:List Str) (xs:List V),br H xs (ss.map (dF T))->∃kvs:List (Key×V),xs.length=kvs.length/\(∀(i:Nat) (k:Key) (v:V),kvs[i]?=some (k,v)->∃q,xs[i]?=some (.ref q)/\H q=some (.tup [kV k,v])) /\
   kvs.map (·.1)=ss.map Sum.inr/\∀x:Str,(cX kvs (Sum.inr x)=none/\¬x∈ss)\/(∃v,cX kvs (Sum.inr x)=some v/\SH H v (T x)/\x∈ss):=by
  intro ss
  induction ss with
  | nil =>
   intro xs r
   have z:=br.nil_inv r
   subst z
   exact⟨[],rfl,fun i k v e=>by simp at e,rfl,fun x=>.inl ⟨rfl,by simp⟩⟩
  | cons y ss ih =>
   intro xs r
   obtain⟨x1,t1,rfl,h1,r⟩:=br.cons_inv r
   obtain⟨kvs,l1,l2,l3,l4⟩:=ih t1 r
   obtain⟨q,zs,rfl,hq,rz⟩:=aX.bN h1
   obtain⟨z1,t2,rfl,g1,rz⟩:=rz.cons_inv
   obtain⟨z2,t3,rfl,g2,rz⟩:=rz.cons_inv
   have z:=rz.nil_inv
   subst z
   obtain⟨q2,ws,rfl,hq2,rw2⟩:=aX.bN g2
   obtain⟨w1,t4,rfl,f1,rw2⟩:=rw2.cons_inv
   obtain⟨w2,t5,rfl,f2,rw2⟩:=rw2.cons_inv
   have z:=rw2.nil_inv
   subst z
   have e1:w1=vO (T y).1:=xw f1
   have e2:w2=vO (T y).2:=xw f2
   subst e1 e2
   rw [g1.str_inv] at hq
   refine⟨(Sum.inr y,.ref q2)::kvs,by simp [l1],fun i k v e=>?_,by simp [l3],fun x=>?_⟩
   ·cases i with
    | zero=>cases (GL.inj e);exact⟨q,rfl,hq⟩
    | succ i =>
     obtain⟨q',a,b⟩:=l2 i k v (by simpa using e)
     exact⟨q',by simpa using a,b⟩
   ·by_cases e:x=y
    ·subst e
     exact .inr ⟨_,dD rfl,⟨q2,rfl,hq2⟩,GB ..⟩
    ·rw [dE (fun z=>e (Sum.inr.inj z).symm)]
     rcases l4 x with ⟨a,b⟩ | ⟨v,a,b,c⟩
     ·exact .inl ⟨a,fun z=>(Gu.mp z).elim e b⟩
     ·exact .inr ⟨v,a,b,GC _ c⟩
 obtain⟨kvs,l1,l2,l3,l4⟩:=go ss xs r
 refine⟨kvs,l1,l2,?_,⟨l3,hs.nd,fun x=>?_⟩⟩
 ·rw [l3]
  exact Hy.map _ (fun a b n z=>n (Sum.inr.inj z)) hs.nd
 ·rcases l4 x with ⟨a,b⟩ | ⟨v,a,b,c⟩
  ·refine .inl ⟨a,?_,b⟩
   exact Classical.byContradiction fun z=>b ((hm x).mpr z)
  ·exact .inr ⟨v,a,.inl b,c⟩
theorem C0 (s:Sx):PyData.eqv (dS s) (.tuple [.none,.none])=decide (s=fi):=by
 obtain⟨a,b⟩:=s
 cases a <;> cases b <;> rfl
theorem Ck (s:Sx):(dS s).canLay0=true:=by
 obtain⟨a,b⟩:=s
 cases a <;> cases b <;> rfl
theorem ES (s:Sx):(dS s).depth<=60:=by
 obtain⟨a,b⟩:=s
 cases a <;> cases b <;> (show (1:Nat)<=60;decide)
section
variable {X:Cx}
theorem z5 {pins:List (Addr×Obj)}{Gd : St}{H:Hp}{s:Shared}{aA:Addr}(I:Inv X pins Gd H s)(g:jF X.K X.mg aA):∃as,Reads s.heap (.ref aA) (.tuple [.none,.none]) as:=by
 obtain⟨dc,n,sl,e⟩:=g.at_
 exact⟨_,.tuple (I.jn aA _ e) rfl rfl (.cons .none (.cons .none .nil))⟩
theorem Ef {aA:Addr}(hu:X.A.units+64<cLine)(g:jF X.K X.mg aA):fq X (compareOp .NotEq) (fun x y H Q=>∃s,SV aA H x s/\y=.ref aA/\Q (.bl (!decide (s=fi))) H):=by
 intro pins sh Gd H x y v u Q I rx ry h
 obtain⟨s,hs,rfl,q⟩:=h
 cases (show u=Value.ref aA from ry)
 obtain⟨bs,rb⟩:=z5 I g
 rcases hs with hs | ⟨rfl,rfl⟩
 ·obtain⟨as,ra⟩:=hs.rd.reads I.aZ rx
  refine PySem.SeqAt.neOverData X.prog X.w X.A X.xe sh v _ _ _ as bs _ ra rb (Ck s) rfl (by have:=ES s;omega) ⟨.bl _,H,I,?_,q⟩
  show _=Value.bool (!decide (s=fi))
  rw [C0]
 ·cases (show v=Value.ref aA from rx)
  exact PySem.SeqAt.neOverData X.prog X.w X.A X.xe sh _ _ _ _ bs bs _ rb rb rfl rfl (by show X.A.units+1<cLine;omega) ⟨.bl _,H,I,rfl,q⟩
end
def kQ (aA:Addr):Sp:=fun vs H Q _=>∃(d:Addr) (kvs:List (Key×V)) (ks:List Str) (T:Str->Sx),vs=[.ref d]/\H d=some (.dK kvs)/\Tb aA H kvs ks T/\ks.length<64/\∀v H',FV H' v T->ar H H'->Q v H'
def Cm (o:Option Int)(n:Int):Option Int:=o.map (· + n)
def E3 (s:Sx)(n:Int):Sx:=(Cm s.1 n,Cm s.2 n)
def Eg (T:Str->Sx):cH->Sx
 | .put _ n=>(some n,some n)
 | .copy _ y=>T y
 | .add x n=>E3 (T x) n
 | .read _=>fi
 | .tell x=>T x
def Bt (T:Str->Sx)(d:cH):Str->Sx:=gC T (qE d) (Eg T d)
def eF (T:Str->Sx):List cH->(Str->Sx):=fun ds=>ds.foldl Bt T
def sf (K:Gh):Sp:=fun vs H Q _=>∃(q:Addr) (s:Sx) (n:Int),vs=[.ref q,.int n]/\ay K H q [vO s.1,vO s.2]/\∀v H',SH H' v (E3 s n)->ar H H'->Q v H'
def mw (aA:Addr):Sp:=fun vs H Q _=>∃(d q:Addr) (kvs:List (Key×V)) (ks:List Str) (T:Str->Sx) (dd:cH),vs=[.ref d,.ref q]/\H d=some (.dK kvs)/\Tb aA H kvs ks T/\H q=some (.tup (jg dd))/\∀v H',SV aA H' v (Eg T dd)->ar H H'->Q v H'
def pM:Sp:=fun vs H Q _=>∃(fv:V) (p:Addr) (ws:List V) (ds:List cH) (T:Str->Sx) (m:Nat),vs=[fv,.ref p]/\FV H fv T/\H p=some (.tup ws)/\br H ws (ds.map dI)/\(∀ss:List Str,(∀x∈ss,T x≠fi)->ss.Nodup->ss.length<=m)/\m+ds.length<64/\∀v H',FV H' v (eF T ds)->ar H H'->Q v H'
theorem Tb.getD {aA:Addr}{H:Hp}{kvs:List (Key×V)}{ks:List Str}{T:Str->Sx}(h:Tb aA H kvs ks T)(x:Str):∃v,(cX kvs (Sum.inr x)).getD (.ref aA)=v/\SV aA H v (T x):=by
 rcases h.val x with ⟨a,b,_⟩ | ⟨v,a,b,_⟩
 ·exact⟨_,by rw [a];rfl,.inr ⟨rfl,b⟩⟩
 ·exact⟨v,by rw [a];rfl,b⟩
theorem vx {nums:List Int}{at_:Nat}(h:at_<=nums.length):fC (nums.map V.int) (some (at_:Int)) none=(nums.drop at_).map V.int:=by
 unfold fC
 rw [HT.rD,HT.pd,Gg]
 rw [<-List.map_drop,<-List.map_take]
 congr 1
 rw [show min at_ nums.length=at_ by omega]
 exact IA (by rw [HS];omega)
section
variable {C D:Addr}{H0 H H1:Hp}{w0 w1:WA}{plv:V}{x0 x1 x':D4}
end
mutual
def fU:PyData->Bool
 | .none=>true
 | .int _=>true
 | .str _=>true
 | .tuple xs=>d5 xs
 | _=>false
def d5:List PyData->Bool
 | []=>true
 | x::xs=>fU x&&d5 xs
end
mutual
def uw:PyData->Nat
 | .tuple xs=>nL xs+1
 | _=>1
def nL:List PyData->Nat
 | []=>0
 | x::xs=>uw x+nL xs
end
noncomputable instance Ep:DecidableEq PyData:=fun a b=>Classical.propDecidable (a=b)
mutual
theorem xx:∀{a b:PyData},fU a=true->fU b=true->(PyData.eqv a b=true↔a=b)
 | .none,.none,_,_=>⟨fun _=>rfl,fun _=>rfl⟩
 | .int i,.int j,_,_=>by show ((i == j)=true)↔_;rw [beq_iff_eq];exact⟨fun h=>by rw [h],fun h=>by injection h⟩
 | .str x,.str y,_,_=>by show ((x == y)=true)↔_;rw [beq_iff_eq];exact⟨fun h=>by rw [h],fun h=>by injection h⟩
 | .tuple xs,.tuple ys,ha,hb=>by
  show (PyData.eqvAll xs ys=true)↔_
  rw [qN (show d5 xs=true from ha) (show d5 ys=true from hb)]
  exact⟨fun h=>by rw [h],fun h=>by injection h⟩
 | .none,.int _,_,_ | .none,.str _,_,_ | .none,.tuple _,_,_ | .int _,.none,_,_ | .int _,.str _,_,_ | .int _,.tuple _,_,_
 | .str _,.none,_,_ | .str _,.int _,_,_ | .str _,.tuple _,_,_ | .tuple _,.none,_,_ | .tuple _,.int _,_,_ | .tuple _,.str _,_,_=>⟨fun h=>(by cases h),fun h=>(by cases h)⟩
 | .bool _,_,h,_ | .list _,_,h,_ | .dict _,_,h,_=>by cases h
 | .none,.bool _,_,h | .none,.list _,_,h | .none,.dict _,_,h | .int _,.bool _,_,h | .int _,.list _,_,h | .int _,.dict _,_,h
 | .str _,.bool _,_,h | .str _,.list _,_,h | .str _,.dict _,_,h | .tuple _,.bool _,_,h | .tuple _,.list _,_,h | .tuple _,.dict _,_,h=>by cases h
theorem qN:∀{a b:List PyData},d5 a=true->d5 b=true->(PyData.eqvAll a b=true↔a=b)
 | [],[],_,_=>⟨fun _=>rfl,fun _=>rfl⟩
 | x::xs,y::ys,ha,hb=>by
  have ha:(fU x&&d5 xs)=true:=ha
  have hb:(fU y&&d5 ys)=true:=hb
  rw [G5] at ha hb
  show ((PyData.eqv x y&&PyData.eqvAll xs ys)=true)↔_
  rw [G5,xx ha.1 hb.1,qN ha.2 hb.2]
  exact⟨fun ⟨h1,h2⟩=>by rw [h1,h2],fun h=>by injection h with h1 h2;exact⟨h1,h2⟩⟩
 | [],_::_,_,_ | _::_,[],_,_=>⟨fun h=>(by cases h),fun h=>(by cases h)⟩
end
mutual
theorem tL {h:Heap}:∀{v:Value} {a b:PyData} {as bs:List Addr},Reads h v a as->Reads h v b bs->fU a=true->fU b=true->a=b
 | _,_,_,_,_,.none,.none,_,_=>rfl
 | _,_,_,_,_,.int i t,.int _ _,_,_=>rfl
 | _,_,_,_,_,.str x t,.str _ _,_,_=>rfl
 | _,_,_,_,_,.tuple e1 c1 d1 r1,.tuple e2 c2 d2 r2,ha,hb=>by
  rw [e1] at e2
  cases e2
  rw [d1] at d2
  cases d2
  rw [nM r1 r2 ha hb]
 | _,_,_,_,_,.tuple e1 c1 d1 r1,.list e2 c2 d2 r2,_,hb=>by cases hb
 | _,_,_,_,_,.tuple e1 c1 d1 r1,.dict e2 c2 d2 r2 r3,_,hb=>by cases hb
 | _,_,_,_,_,.bool _,_,ha,_=>by cases ha
 | _,_,_,_,_,.list ..,_,ha,_=>by cases ha
 | _,_,_,_,_,.dict ..,_,ha,_=>by cases ha
theorem nM {h:Heap}:∀{vs:List Value} {a b:List PyData} {as bs:List Addr},ReadsAll h vs a as->ReadsAll h vs b bs->d5 a=true->d5 b=true->a=b
 | _,_,_,_,_,.nil,.nil,_,_=>rfl
 | _,_,_,_,_,.cons (d:=x) (ds:=xs) r1 t1,.cons (d:=y) (ds:=ys) r2 t2,ha,hb=>by
  have ha:(fU x&&d5 xs)=true:=ha
  have hb:(fU y&&d5 ys)=true:=hb
  rw [G5] at ha hb
  rw [tL r1 r2 ha.1 hb.1,nM t1 t2 ha.2 hb.2]
end
mutual
theorem qO {h h':Heap}(k:∀a o n vs,h.get? a=some o->o.data=.seq vs n->h'.get? a=some o):∀{v:Value} {a:PyData} {as:List Addr},Reads h v a as->fU a=true->Reads h' v a as
 | _,_,_,.none,_=>.none
 | _,_,_,.int i t,_=>.int i t
 | _,_,_,.str x t,_=>.str x t
 | _,_,_,.tuple e1 c1 d1 r1,ha=>.tuple (k _ _ _ _ e1 d1) c1 d1 (mS k r1 ha)
 | _,_,_,.bool _,ha=>by cases ha
 | _,_,_,.list ..,ha=>by cases ha
 | _,_,_,.dict ..,ha=>by cases ha
theorem mS {h h':Heap}(k:∀a o n vs,h.get? a=some o->o.data=.seq vs n->h'.get? a=some o):∀{vs:List Value} {a:List PyData} {as:List Addr},ReadsAll h vs a as->d5 a=true->ReadsAll h' vs a as
 | _,_,_,.nil,_=>.nil
 | _,_,_,.cons (d:=x) (ds:=xs) r1 t1,ha=>by
  have ha:(fU x&&d5 xs)=true:=ha
  rw [G5] at ha
  exact .cons (qO k r1 ha.1) (mS k t1 ha.2)
end
section
variable {prog:Program}{w:World}{E:Value->Shared->Prop}
abbrev Cn (w:World)(d:PyData):Int:=PySem.W.hashW w.params (PySem.W.ofPy d)
mutual
theorem qP:∀(d:PyData) (v:Value) (as:List Addr) (A:Around) (s:Shared) (Q:Int->Shared->Prop),fU d=true->Reads s.heap v d as->A.units+d.depth<cLine ->
  Q (Cn w d) { s with toks:=s.toks+uw d }->wpAny (model prog w) A (pyHash v) Q E s
 | .none,_,_,A,s,Q,_,x,hu,h=>by
  cases x
  exact PySem.W.pyHash_slot (T := "NoneType") rfl F.slot_NoneType_hash F.entry_NoneType_hash (F.args_NoneType_hash_1 _) (beq_builtin_none _) (.inr (by omega)) (IZ (I0 (IZ (wpAny_mkInt (I0 ⟨_,_,rfl,h⟩)))))
 | .int i,_,_,A,s,Q,_,x,_,h=>by
  cases x
  refine wpAny_pyHash_int ?_
  have e:=PySem.W.hashW_int w.params i
  rw [<-e]
  exact h
 | .str y,_,_,A,s,Q,_,x,_,h=>by cases x;exact JC h
 | .tuple xs,_,_,A,s,Q,hk,x,hu,h=>by
  cases x with
  | @tuple a o vs n _ _ hg hc hd hw =>
   refine PySem.W.pyHash_slot (T := "tuple") ⟨_,hg,hc⟩ F.slot_tuple_hash F.entry_tuple_hash (F.args_tuple_hash_1 _) (beq_builtin_none _) (.inr (by omega)) ?_
   show wpAny _ _ (Builtin.Tuple.tupleItemsOf (.ref a) >>= _) _ _ s
   refine IZ (wpAny_tupleItemsOf hg hd ?_)
   refine IZ ?_
   rw [<-Array.forIn_toList]
   refine tM xs vs.toList _ A.in1 s #[] _ hk hw (by have:(PyData.tuple xs).depth=PyData.depthAll xs+1:=rfl;rw [Around.in1_units];omega) fun b hb=>?_
   show wpAny _ _ (retInt (Builtin.Tuple.tupleHashOf b.toList)) _ _ _
   rw [hb]
   exact IZ (wpAny_mkInt (I0 ⟨_,_,rfl,h⟩))
 | .bool _,_,_,_,_,_,hk,_,_,_ | .list _,_,_,_,_,_,hk,_,_,_ | .dict _,_,_,_,_,_,hk,_,_,_=>by cases hk
theorem tM:∀(xs:List PyData) (vs:List Value) (as:List Addr) (A:Around) (s:Shared) (b:Array Int) (Q:Array Int->Shared->Prop),d5 xs=true->ReadsAll s.heap vs xs as->A.units+PyData.depthAll xs<cLine ->
  (∀b',b'.toList=b.toList++PySem.W.hashesW w.params (PySem.W.ofPys xs)->Q b' { s with toks:=s.toks+nL xs }) ->
  wpAny (model prog w) A (forIn vs b fun x r=>do let h <-pyHash x;pure PUnit.unit;pure (ForInStep.yield (r.push h))) Q E s
 | [],_,_,A,s,b,Q,_,x,_,h=>by cases x;exact I0 (h b (by simp [PySem.W.hashesW,PySem.W.ofPys]))
 | k::xs,_,_,A,s,b,Q,hk,x,hu,h=>by
  cases x with
  | cons x1 x2 =>
   have hk:(fU k&&d5 xs)=true:=hk
   rw [G5] at hk
   have hu:A.units+max k.depth (PyData.depthAll xs)<cLine:=hu
   rw [HA]
   refine IZ (IZ (qP k _ _ A s _ hk.1 x1 (by omega) ?_))
   refine IZ (I0 (I0 ?_))
   refine tM xs _ _ A _ _ Q hk.2 x2 (by omega) fun b' hb=>?_
   have h2:=h b' (by simp [hb,PySem.W.hashesW,PySem.W.ofPys])
   have e:nL (k::xs)=uw k+nL xs:=rfl
   rw [e,<-Nat.add_assoc] at h2
   exact h2
end
mutual
theorem tN:∀(d:PyData) (v:Value) (as:List Addr) (A:Around) (s:Shared) (n:Nat) (Q:Bool->Shared->Prop),fU d=true->Reads s.heap v d as->d.depth<=n->Q true s->wpAny (model prog w) A (eqIsQuiet n v) Q E s
 | .none,_,_,A,s,n,Q,_,x,_,h=>by cases x;unfold eqIsQuiet;exact I0 h
 | .int i,_,_,A,s,n,Q,_,x,_,h=>by cases x;unfold eqIsQuiet;exact I0 h
 | .str y,_,_,A,s,n,Q,_,x,_,h=>by cases x;unfold eqIsQuiet;exact I0 h
 | .tuple xs,_,_,A,s,n,Q,hk,x,hn,h=>by
  cases x with
  | @tuple a o vs n' _ _ hg hc hd hw =>
   have hn:PyData.depthAll xs+1<=n:=hn
   obtain⟨n,rfl⟩:∃m,n=m+1:=⟨n-1,by omega⟩
   have hT:s.TypeIs (.ref a) "tuple" := ⟨_,hg,hc⟩
   unfold eqIsQuiet
   refine IZ (wpAny_specialOf hT F.slot_tuple_eq.lookup ?_)
   show wpAny _ _ (isInstance (.ref a) (.type "tuple") >>= _) _ _ s
   refine IZ (Jt hT isSubtype_tuple_tuple ?_)
   simp only [Bool.not_true,Hk,if_false]
   refine IZ (Jg hg hd ?_)
   refine IZ ?_
   show wpAny _ _ (forIn vs _ _) _ _ s
   rw [<-Array.forIn_toList]
   have hall:=tO xs vs.toList _ A s n hk hw (by omega)
   refine wpAny_forIn_list _ (fun rest r s'=>r.1=none/\s' = s/\∀v∈rest,∀Q:Bool->Shared->Prop,Q true s->wpAny (model prog w) A (eqIsQuiet n v) Q E s) _ ?_ ?_ _ _ ⟨rfl,rfl,hall⟩
   ·rintro v rest r s' ⟨hr,rfl,hq⟩
    refine IZ (hq v GB _ ?_)
    simp only [Bool.not_true,Hk,if_false]
    exact I0 ⟨rfl,rfl,fun u hu'=>hq u (GC _ hu')⟩
   ·rintro⟨r1,r2⟩ s' ⟨hr,rfl,_⟩
    simp only at hr
    subst hr
    exact I0 h
 | .bool _,_,_,_,_,_,_,hk,_,_,_ | .list _,_,_,_,_,_,_,hk,_,_,_ | .dict _,_,_,_,_,_,_,hk,_,_,_=>by cases hk
theorem tO:∀(xs:List PyData) (vs:List Value) (as:List Addr) (A:Around) (s:Shared) (n:Nat),d5 xs=true->ReadsAll s.heap vs xs as->PyData.depthAll xs<=n->∀v∈vs,∀Q:Bool->Shared->Prop,Q true s->wpAny (model prog w) A (eqIsQuiet n v) Q E s
 | [],_,_,A,s,n,_,x,_=>by cases x;intro v hv;cases hv
 | k::xs,_,_,A,s,n,hk,x,hn=>by
  cases x with
  | cons x1 x2 =>
   have hk:(fU k&&d5 xs)=true:=hk
   rw [G5] at hk
   have hn:max k.depth (PyData.depthAll xs)<=n:=hn
   intro v hv Q h
   rcases Gu.mp hv with rfl | hv
   ·exact tN k _ _ A s n Q hk.1 x1 (by omega) h
   ·exact tO xs _ _ A s n hk.2 x2 (by omega) v hv Q h
end
end
structure lr (d:PyData):Prop where
 key:fU d=true
 lay:d.canLay0=true
 dep:d.depth<=7
 tup:∃xs,d=.tuple xs
def ky (prog:Program)(w:World):HeapKind prog w PyData where
 is:=fun h d a=>lr d/\∃as,Reads h (.ref a) d as
 hash:=Cn w
 draws:=uw
 room:=fun A=>A.units+64<cLine
 inj:=fun ⟨h1,_,r1⟩ ⟨h2,_,r2⟩=>tL r1 r2 h1.key h2.key
 keeps:=fun {h h' k a d o es ep} ⟨h1,as,r1⟩ hd he hs=>⟨h1,as,qO (fun b u n vs e1 e2=>by
  have hne:b≠d:=by
   rintro rfl
   rw [hd] at e1
   cases e1
   rw [he] at e2
   cases e2
  exact (hs.2 b hne).trans e1) r1 h1.key⟩
 pyHash:=fun hu ⟨h1,_,r1⟩ h=>qP _ _ _ _ _ _ h1.key r1 (by have:=h1.dep;omega) h
 eqBool:=fun {A E s x y a b Q} hu ⟨h1,_,r1⟩ ⟨h2,_,r2⟩ h=>by
  refine PySem.SeqAt.eqAt_reads x y A s (.ref a) (.ref b) _ _ r1 r2 h1.lay h2.lay (by have:=h1.dep;have:=h2.dep;omega) prog w E Q ?_
  have e:PyData.eqv x y=decide (x=y):=by
   have:=xx h1.key h2.key
   by_cases hxy:x=y
   ·rw [decide_eq_true hxy];exact this.mpr hxy
   ·rw [decide_eq_false hxy];exact IQ.mpr fun z=>hxy (this.mp z)
  rw [e]
  exact h
 quiet:=fun ⟨h1,_,r1⟩ h=>tN _ _ _ _ _ _ _ h1.key r1 (by have:=h1.dep;omega) h
abbrev KX (kvs:List (PyData×Addr×V))(xs:List (PyData×Addr×Value)):Prop:=Paired (fun (p:PyData×Addr×V) (q:PyData×Addr×Value)=>p.1=q.1/\p.2.1=q.2.1/\RelV p.2.2 q.2.2) kvs xs
def nN (P:Program)(w:World)(a:Addr)(kvs:List (PyData×Addr×V))(h:Heap):Prop:=(a == sysModules)=false/\kvs.length<=sizeLine /\
 ∃(xs:List (PyData×Addr×Value)) (o:Obj) (es:Array DictEntry) (ep:Nat),h.get? a=some o/\o.ExactDict/\o.data=.dict es ep/\es.toList=xs.map (entryOfKey (ky P w))/\(xs.map (·.1)).Nodup/\KX kvs xs
def fV (P:Program)(w:World)(a:Addr)(kvs:List (PyData×Addr×V)):HO:=.ext (nN P w a kvs)
theorem pN {P:Program}{w:World}{H:Hp}{h:Heap}{a:Addr}{kvs:List (PyData×Addr×V)}(S:nN P w a kvs h):cA P w H h a (fV P w a kvs) :=
 ⟨S,let ⟨_,_,_,o,_,_,e,_⟩:=S;⟨o,e⟩,fun h1 h2 ⟨s1,s2,xs,o,es,ep,e,r⟩ k=>⟨s1,s2,xs,o,es,ep,k o e,r⟩⟩
def Co (H:Hp)(kvs:List (PyData×Addr×V)):Prop:=∀p∈kvs,lr p.1/\aX H (.ref p.2.1) p.1
noncomputable def fL (kvs:List (PyData×Addr×V)) (d:PyData):Option V:=(kvs.find? fun p=>decide (p.1=d)).map (·.2.2)
noncomputable def putD (kvs:List (PyData×Addr×V)) (d:PyData) (k:Addr) (v:V):List (PyData×Addr×V):=if (fL kvs d).isSome then kvs.map (fun p=>if p.1=d then (p.1,p.2.1,v) else p) else kvs++[(d,k,v)]
theorem KX.val {d:PyData}:∀{kvs:List (PyData×Addr×V)} {xs:List (PyData×Addr×Value)},KX kvs xs->(fL kvs d=none/\atKey xs d=none)\/∃v a u,fL kvs d=some v/\atKey xs d=some (a,u)/\RelV v u
 | _,_,.nil=>.inl ⟨rfl,rfl⟩
 | _,_,.cons (a:=p) (b:=q) (l₁:=kvs) (l₂:=xs) ⟨e1,e2,e3⟩ t=>by
  by_cases h:p.1=d
  ·refine .inr ⟨p.2.2,q.2.1,q.2.2,?_,?_,e3⟩
   ·unfold fL;rw [IT (by exact decide_eq_true h)];rfl
   ·unfold atKey;rw [IT (by exact decide_eq_true (e1 ▸ h))];rfl
  ·have h':¬q.1=d:=fun z=>h (e1.trans z)
   have e4:fL (p::kvs) d=fL kvs d:=by unfold fL;rw [IU (by rw [decide_eq_false h];decide)]
   have e5:atKey (q::xs) d=atKey xs d:=by unfold atKey;rw [IU (by rw [decide_eq_false h'];decide)]
   rw [e4,e5]
   exact KX.val t
theorem KX.put {d:PyData}{k:Addr}{v:V}{u:Value}(r:RelV v u){kvs:List (PyData×Addr×V)}{xs:List (PyData×Addr×Value)}(h:KX kvs xs):KX (putD kvs d k v) (storedH xs d k u):=by
 have hv:=h.val (d:=d)
 unfold putD storedH
 rcases hv with ⟨h1,h2⟩ | ⟨v',a',u',h1,h2,_⟩
 ·rw [h1,h2]
  have app:∀{l:List (PyData×Addr×V)} {m:List (PyData×Addr×Value)},KX l m->KX (l++[(d,k,v)]) (m++[(d,k,u)]):=by
   intro l m q
   induction q with
   | nil=>exact .cons ⟨rfl,rfl,r⟩ .nil
   | cons hq _ ih=>exact .cons hq ih
  exact app h
 ·rw [h1,h2]
  show KX (kvs.map fun p=>if p.1=d then (p.1,p.2.1,v) else p) (xs.map (putAt d u))
  have go:∀{l:List (PyData×Addr×V)} {m:List (PyData×Addr×Value)},KX l m->KX (l.map fun p=>if p.1=d then (p.1,p.2.1,v) else p) (m.map (putAt d u)):=by
   intro l m q
   induction q with
   | nil=>exact .nil
   | @cons p q ps qs hq _ ih =>
    refine .cons ?_ ih
    unfold putAt
    dsimp only
    by_cases e:p.1=d
    ·rw [if_pos e,if_pos (hq.1 ▸ e)]
     exact⟨hq.1,hq.2.1,r⟩
    ·rw [if_neg e,if_neg (fun z=>e (hq.1.trans z))]
     exact hq
  exact go h
theorem Bu (kvs:List (PyData×Addr×V))(d:PyData)(k:Addr)(v:V):(putD kvs d k v).length<=kvs.length+1:=by
 unfold putD
 split
 ·rw [Gg];omega
 ·rw [Gr];exact Gi _
theorem KX.keys:∀{kvs:List (PyData×Addr×V)} {xs:List (PyData×Addr×Value)},KX kvs xs->∀q∈xs,∃p∈kvs,p.1=q.1/\p.2.1=q.2.1
 | _,_,.nil,q,hq=>nomatch hq
 | _,_,.cons (a:=p) (l₁:=kvs) ⟨e1,e2,_⟩ t,q,hq=>by
  rcases Gu.mp hq with rfl | hq
  ·exact⟨p,GB ..,e1,e2⟩
  ·obtain⟨p',hp',r⟩:=KX.keys t q hq
   exact⟨p',GC _ hp',r⟩
section
variable {X:Cx}{pins:List (Addr×Obj)}{Gd : St}{H:Hp}{s:Shared}{a k:Addr}{kvs:List (PyData×Addr×V)}{d:PyData}
theorem key_is (I:Inv X pins Gd H s)(hk:lr d)(r:aX H (.ref k) d):(ky X.prog X.w).is s.heap d k:=⟨hk,r.reads I.aZ rfl⟩
theorem qQ (I:Inv X pins Gd H s)(e:H a=some (fV X.prog X.w a kvs))(hk:Co H kvs):(a == sysModules)=false/\kvs.length<=sizeLine/\∃xs,KX kvs xs/\s.heap.DictOfH (ky X.prog X.w) a xs:=by
 obtain⟨h1,h2,xs,o,es,ep,g1,g2,g3,g4,g5,g6⟩:=(show nN X.prog X.w a kvs s.heap from (I.aZ a _ e).1)
 refine⟨h1,h2,xs,g6,o,es,ep,g1,g2,g3,g4,fun x hx=>?_,g5⟩
 obtain⟨p,hp,e1,e2⟩:=g6.keys x hx
 have:=hk p hp
 rw [<-e1,<-e2]
 exact key_is I this.1 this.2
theorem KX.len:∀{kvs:List (PyData×Addr×V)} {xs:List (PyData×Addr×Value)},KX kvs xs->kvs.length=xs.length
 | _,_,.nil=>rfl
 | _,_,.cons _ t=>congrArg (· + 1) (KX.len t)
theorem ux {A:Around}(hu:A.units+66<cLine){P:Program}{w:World}:(ky P w).room A.in1:=by show A.in1.units+64<cLine;rw [Around.in1_units];omega
structure yz (X:Cx) (H:Hp) (a k:Addr) (kvs:List (PyData×Addr×V)) (d:PyData):Prop where
 at_:H a=some (fV X.prog X.w a kvs)
 keys:Co H kvs
 key:lr d
 rd:aX H (.ref k) d
theorem C1 (hu:X.A.units+66<cLine):fq X (compareOp .In) (fun x y H Q=>∃k a d kvs,x=.ref k/\y=.ref a/\yz X H a k kvs d/\Q (.bl (fL kvs d).isSome) H):=by
 intro pins s Gd H x y v u Q I rx ry h
 obtain⟨k,a,d,kvs,rfl,rfl,D,q⟩:=h
 cases rx
 cases ry
 obtain⟨h1,h2,xs,kx,dd⟩:=qQ I D.at_ D.keys
 refine wpAny_in_heap (ux hu) (key_is I D.key D.rd) h1 dd ?_
 have e:(atKey xs d).isSome=(fL kvs d).isSome:=by
  rcases kx.val (d:=d) with ⟨e1,e2⟩ | ⟨_,_,_,e1,e2,_⟩ <;> rw [e1,e2] <;> rfl
 rw [e]
 exact⟨.bl _,H,I.tok _,rfl,q⟩
theorem yA (hu:X.A.units+66<cLine):fq X (compareOp .NotIn) (fun x y H Q=>∃k a d kvs,x=.ref k/\y=.ref a/\yz X H a k kvs d/\Q (.bl (!(fL kvs d).isSome)) H):=by
 intro pins s Gd H x y v u Q I rx ry h
 obtain⟨k,a,d,kvs,rfl,rfl,D,q⟩:=h
 cases rx
 cases ry
 obtain⟨h1,h2,xs,kx,dd⟩:=qQ I D.at_ D.keys
 refine wpAny_notIn_heap (ux hu) (key_is I D.key D.rd) h1 dd ?_
 have e:(atKey xs d).isSome=(fL kvs d).isSome:=by
  rcases kx.val (d:=d) with ⟨e1,e2⟩ | ⟨_,_,_,e1,e2,_⟩ <;> rw [e1,e2] <;> rfl
 rw [e]
 exact⟨.bl _,H,I.tok _,rfl,q⟩
theorem C2 {o i:Expr}{pos:Pos}{td ty:TE}(hu:X.A.units+66<cLine)(ho:PE X o td)(hi:PE X i ty)(hs:yb i) :
  PE X (.Subscript o i pos) (fun Gd H Q=>td Gd H fun x H1=>ty Gd H1 fun y H2=>∃k a d kvs v,x=.ref a/\y=.ref k/\yz X H2 a k kvs d/\fL kvs d=some v/\Q v H2):=by
 intro pins s Gd H Q I h
 refine rM PySem.F.slot_dict_getitem.lookup hs (bo (ho pins s Gd H _ I h) fun u s1 ⟨x,H1,I1,rx,q1⟩=>bo (hi pins s1 Gd H1 _ I1 q1) fun iv s2 ⟨y,H2,I2,ry,k,a,d,kvs,v,ex,ey,D,hv,q2⟩=>?_)
 subst ex ey
 obtain rfl:u=Value.ref a:=rx
 obtain rfl:iv=Value.ref k:=ry
 obtain⟨h1,h2,xs,kx,dd⟩:=qQ I2 D.at_ D.keys
 rcases kx.val (d:=d) with ⟨e1,_⟩ | ⟨v',a',u',e1,e2,e3⟩
 ·rw [e1] at hv;cases hv
 ·rw [e1] at hv
  cases hv
  exact⟨dd.typeIs,wpAny_getItem_heap (ux hu) (key_is I2 D.key D.rd) dd e2 ⟨_,H2,I2.tok _,e3,q2⟩⟩
theorem Bv (hu:X.A.units+66<cLine):As X (fun o i v H Q=>∃k a d kvs,o=.ref a/\i=.ref k/\yz X H a k kvs d/\kvs.length<sizeLine/\Q (upd H a (fV X.prog X.w a (putD kvs d k v)))):=by
 intro pins s Gd H o i v ov iv u Q I ro ri rv h
 obtain⟨k,a,d,kvs,rfl,rfl,D,hz,q⟩:=h
 cases ro
 cases ri
 obtain⟨h1,h2,xs,kx,dd⟩:=qQ I D.at_ D.keys
 refine wpAny_setItem_heap (ux hu) (key_is I D.key D.rd) dd (fun h' hm' hs'=>?_) (by rw [<-kx.len];exact h2)
 obtain⟨o',es,ep,g1,g2,g3,g4,g5,g6⟩:=id hm'
 refine⟨_,I.write (t':=_) (x:=a) (e:=a) (by rw [D.at_];exact trivial) (.inl rfl) (fun c u' hc hu=>(hs'.2 c hc).trans hu) ⟨o',g1⟩ (pN ⟨h1,?_,storedH xs d k u,o',es,ep,g1,g2,g3,g4,g6,kx.put rv⟩),q⟩
 have:=Bu kvs d k v
 omega
end
open LS
theorem mx:∀{us:List Value} {ns:List Int},IntsAre us ns->∀m (hm:m<us.length),∃(hm':m<ns.length) (t:Tok),us[m]=.int ns[m] t
 | _,_,.nil,m,hm=>absurd hm (Nat.not_lt_zero _)
 | _,_,.cons n t h,0,hm=>⟨Nat.succ_pos _,t,rfl⟩
 | _,_,.cons n t h,m+1,hm=>by
  obtain⟨hm',t',e⟩:=mx h m (Nat.lt_of_succ_lt_succ hm)
  exact⟨Nat.succ_lt_succ hm',t',e⟩
section
variable {X:Cx}
def ET (K:Gh):List V->Hp->VK->Prop:=fun vs H Q=>∃(p:Addr) (ns:List Int),vs=[.ref p]/\aY K H p (ns.map V.int)/\0<ns.length/\∀M,M∈ns->(∀a,a∈ns->M<=a)->Q (.int M) H
theorem z6 (hc:X.calm=true):eZ X (.builtin "min") (ET X.K):=by
 intro pins s Gd H xs us Q I r h
 obtain⟨p,ns,rfl,hS,hn,q⟩:=h
 obtain⟨u,rfl,ru⟩:=vals1 r
 cases (show u=Value.ref p from ru)
 obtain⟨its,rv,pl,hz⟩:=I.list hS
 have hi:IntsAre its ns:=intsAre_of rv
 have hl:=pl.isList
 obtain⟨zs,e⟩:=hi.allInts.items
 have hns:ns=zs.toList.map (·.1):=by rw [<-hi.numsOf,<-nums_intItems,<-e]
 have hsz:0<zs.size:=by
  have h3:=hn
  rw [hns,Gg,G4] at h3
  exact h3
 rw [e] at hl
 refine min_intList (I.ok.hd hc) hl hsz fun v h' tk hv hk=>?_
 obtain⟨t,rfl⟩:=intItems_at hv
 obtain⟨h1,h2⟩:=argBest_lt (numAt zs) (zs.size-1)
 refine⟨.int _,H,I.kept hk,⟨_,rfl⟩,q _ ?_ fun a ha=>?_⟩
 ·rw [hns,numAt_eq];exact getD_mem (by rw [Gg,G4];omega)
 ·rw [hns] at ha
  obtain⟨j,hj,rfl⟩:=mem_getD ha
  rw [Gg,G4] at hj
  rw [<-numAt_eq];exact h2 j (by omega)
def Eh:V->List V->Hp->VK->Prop:=fun x vs H Q=>∃(l:Addr) (ns:List Int) (a:Int),x=.ref l/\vs=[.int a]/\H l=some (.lst (ns.map V.int))/\a∈ns/\Q (.int (ns.idxOf a:Nat)) H
theorem Bw:wW X "list.index" Eh:=by
 intro pins s Gd H x vs v us Q I rx rv h
 obtain⟨l,ns,a,rfl,rfl,hH,ha,q⟩:=h
 cases rx
 obtain⟨u,rfl,ru⟩:=rv.one
 obtain⟨z,its,n,r,hl,e⟩:=I.uO hH
 have fs:(ns.map V.int).all iM=true:=by rw [Ie];intro v hv;obtain⟨k,_,rfl⟩:=GH.mp hv;rfl
 have hlen:ns.length=its.length:=by have:=r.length;rw [Gg] at this;exact this
 have hj:ns.idxOf a<ns.length:=HC ha
 have hi:=intsAre_of r
 refine call_meets F.slot_list_index ⟨_,e,rfl⟩ F.entry_list_index (F.args_list_index_2 _ _)
  (SeqAt.list_indexAt l its.toArray n none #[] u (jJ (.int a)) (ns.idxOf a) (by rw [GF];omega) (by have:=z;rw [Gg] at this;have:=jr;omega) ?_ ?_) ⟨e,fun y hy=>iY ru rfl r fs y (by simpa using hy),?_⟩
 ·obtain⟨hm',t,e1⟩:=mx hi (ns.idxOf a) (by omega)
  rw [show its.toArray[ns.idxOf a]'(by rw [GF];omega)=its[ns.idxOf a]'(by omega) from rfl,e1,IE]
  exact beq_self_eq_true a
 ·intro m hm hlt
  obtain⟨hm',t,e1⟩:=mx hi m (by rw [GF] at hm;exact hm)
  rw [show its.toArray[m]=its[m]'(by rw [GF] at hm;exact hm) from rfl,e1]
  exact List.not_of_lt_findIdx hlt
 ·exact⟨.int _,H,I.Ec,⟨_,rfl⟩,q⟩
end
def my (a0 a1:V):List (Str×V):=[("members",a0),("places",a1)]
section
variable {a0 a1 z:V}
theorem dN:(my a0 a1).lookup ("members" : Str)=some a0:=lj
theorem fA:(my a0 a1).lookup ("places" : Str)=some a1:=(aS (by decide +kernel) lj)
theorem jP:cF "members" a0 ([]:List (Str×V))=([("members",a0)]:List (Str×V)):=ll
theorem tP:cF "places" a1 ([("members",a0)]:List (Str×V))=my a0 a1:=(cf (by decide +kernel) ll)
theorem nO:(my a0 a1).lookup ("place_of" : Str)=none:=(aS (by decide +kernel) (aS (by decide +kernel) rfl))
end
structure sg (K:Gh) (C:Addr):Prop where
 cl:lG K C
 members:dQ K C "members"
 places:dQ K C "places"
abbrev vN (ms:List Nat):List V:=ms.map fun k=>V.int (k:Nat)
structure jK (C:Addr) (H:Hp) (r m d:Addr) (ms:List Nat):Prop where
 ob:∃dx,H r=some (.ins C dx (my (.ref m) (.ref d)))
 mem:H m=some (.lst (vN ms))
 jw:∃kvs,H d=some (.dK kvs)/\kvs.length<=ms.length/\∀k:Nat,cX kvs (Sum.inl (k:Int):Key)=if k∈ms then some (.int (ms.idxOf k:Nat)) else none
def gF (m d:Addr)(H H':Hp):Prop:=∀c o,H c=some o->c≠m->c≠d->H' c=some o
theorem gF.refl {m d:Addr}{H:Hp}:gF m d H H:=fun _ _ h _ _=>h
theorem gF.trans {m d:Addr}{H H1 H2:Hp}(a:gF m d H H1)(b:gF m d H1 H2):gF m d H H2:=fun c o h n1 n2=>b c o (a c o h n1 n2) n1 n2
theorem gF.of_same {m d:Addr}{H H':Hp}(h:ar H H'):gF m d H H':=fun c o e _ _=>h c o e
section
variable {C r m d:Addr}{H H':Hp}{ms:List Nat}
theorem jK.tu (A:jK C H r m d ms):r≠m/\r≠d/\d≠m:=by
 obtain⟨dx,h1⟩:=A.ob
 obtain⟨kvs,h2,_⟩:=A.jw
 refine⟨bB h1 A.mem ?_,bB h1 h2 ?_,bB h2 A.mem ?_⟩ <;> (intro z;cases z)
theorem jK.same (A:jK C H r m d ms)(s:ar H H'):jK C H' r m d ms:=by
 obtain⟨⟨dx,h1⟩,h2,kvs,h3,h4⟩:=A
 exact⟨⟨dx,s _ _ h1⟩,s _ _ h2,kvs,s _ _ h3,h4⟩
theorem jK.keep (A:jK C H r m d ms)(k:∀c o,H c=some o->(c=r\/c=m\/c=d)->H' c=some o):jK C H' r m d ms:=by
 obtain⟨⟨dx,h1⟩,h2,kvs,h3,h4⟩:=A
 exact⟨⟨dx,k _ _ h1 (.inl rfl)⟩,k _ _ h2 (.inr (.inl rfl)),kvs,k _ _ h3 (.inr (.inr rfl)),h4⟩
theorem jK.tup {c:Addr}{xs:List V}(A:jK C H r m d ms)(b:gF m d H H')(h:H c=some (.tup xs)):H' c=some (.tup xs):=by
 obtain⟨kvs,h2,_⟩:=A.jw
 refine b c _ h (bB h A.mem ?_) (bB h h2 ?_) <;> (intro z;cases z)
end
theorem C3 {ms:List Nat}{k:Nat}(h:¬k∈ms):(ms++[k]).idxOf k=ms.length:=by
 rw [IF,if_neg h];simp
theorem C4 {ms:List Nat}{k j:Nat}(h:j∈ms):(ms++[k]).idxOf j=ms.idxOf j:=by
 rw [IF,if_pos h]
section
variable (C:Addr)
def kR:Sp:=fun vs H Q _=>∃(r dx:Addr) (k:Nat),vs=[.ref r,.int (k:Nat)]/\H r=some (.ins C dx []) /\
 ∀(m d:Addr) (H':Hp),jK C H' r m d [k]->(∀c o,H c=some o->c≠r->H' c=some o)->H m=none->H d=none->Q .bL H'
def kS:Sp:=fun vs H Q _=>∃(r m d:Addr) (k:Nat) (ms:List Nat),vs=[.ref r,.int (k:Nat)]/\jK C H r m d ms/\ms.length<=1000 /\
 ∀H',jK C H' r m d (LS.putIn ms k)->gF m d H H'->Q (.int ((LS.putIn ms k).idxOf k:Nat)) H'
end
def iR:Piece->Bool
 | ([],.go _)=>true
 | _=>false
def kA (l:List Nat):Nat:=l.min?.getD 0
def kB (ps:List Piece):Nat->Nat->List Nat->Nat
 | 0,at_,_=>at_
 | f+1,at_,aH=>match ps[at_]? with
  | some ([],.go n)=>if at_∈aH then kA (aH.drop (aH.idxOf at_)) else kB ps f n (aH++[at_])
  | _=>at_
def cg (ps:List Piece)(at_:Nat):Nat:=kB ps (ps.length+1) at_ []
theorem nP {ps:List Piece}{f at_ n:Nat}{aH:List Nat}(h:ps[at_]?=some ([],.go n)):kB ps (f+1) at_ aH=if at_∈aH then kA (aH.drop (aH.idxOf at_)) else kB ps f n (aH++[at_]):=by
 show (match ps[at_]? with
  | some ([],.go n)=>if at_∈aH then kA (aH.drop (aH.idxOf at_)) else kB ps f n (aH++[at_])
  | _=>at_)=_
 rw [h]
theorem ow {pc:Piece}(h:iR pc=true):∃n,pc=([],.go n):=by
 obtain⟨ds,e⟩:=pc
 cases ds with
 | nil=>cases e with
  | go n=>exact⟨n,rfl⟩
  | _=>cases h
 | cons _ _=>cases h
theorem mz {ps:List Piece}{f at_:Nat}{pc:Piece}{aH:List Nat}(h:ps[at_]?=some pc)(hi:iR pc=false):kB ps (f+1) at_ aH=at_:=by
 show (match ps[at_]? with
  | some ([],.go n)=>if at_∈aH then kA (aH.drop (aH.idxOf at_)) else kB ps f n (aH++[at_])
  | _=>at_)=_
 rw [h]
 obtain⟨ds,e⟩:=pc
 cases ds with
 | nil=>cases e with
  | go n=>cases hi
  | _=>rfl
 | cons _ _=>rfl
theorem C5 {l:List Nat}{M:Int}(h1:M∈l.map fun k:Nat=>(k:Int))(h2:∀a,a∈(l.map fun k:Nat=>(k:Int))->M<=a):M=(kA l:Nat):=by
 obtain⟨k,hk,rfl⟩:=GH.mp h1
 have:l.min?=some k:=IV.mpr ⟨hk,fun b hb=>by have:=h2 _ (GH.mpr ⟨b,hb,rfl⟩);omega⟩
 unfold kA
 rw [this]
 rfl
theorem vy {l:List Nat}(h:l≠[]):kA l∈l:=by
 unfold kA
 cases e:l.min? with
 | none=>exact absurd (List.min?_eq_none_iff.mp e) h
 | some k=>exact (IV.mp e).1
theorem xy {ps:List Piece}(hin:bO ps):∀(f at_:Nat) (aH:List Nat),at_<ps.length->(∀x∈aH,x<ps.length)->kB ps f at_ aH<ps.length
 | 0,at_,_,h,_=>h
 | f+1,at_,aH,h,hp=>by
  have hat:ps[at_]?=some ps[at_]:=by simp [h]
  cases hi:iR ps[at_] with
  | false=>rw [mz hat hi];exact h
  | true =>
   obtain⟨n,e⟩:=ow hi
   have hn:n<ps.length:=by
    have:=hin _ (Hz h)
    rw [e] at this
    exact this
   rw [nP (n:=n) (by rw [hat,e])]
   by_cases hm:at_∈aH
   ·rw [if_pos hm]
    refine hp _ (List.mem_of_mem_drop (vy (l:=aH.drop (aH.idxOf at_)) fun z=>?_))
    have h1:=congrArg Hx z
    rw [HS] at h1
    have:=HC hm
    simp at h1
    omega
   ·rw [if_neg hm]
    refine xy hin f n _ hn fun x hx=>?_
    rcases GW.mp hx with hx | hx
    ·exact hp x hx
    ·rw [Gp.mp hx];exact h
theorem si {ps:List Piece}(hin:bO ps){k:Nat}(h:k<ps.length):cg ps k<ps.length:=xy hin _ _ _ h fun _ h=>nomatch h
theorem dz {l:List Nat}{n:Nat}(nd:l.Nodup)(h:∀x∈l,x<n):l.length<=n:=by
 have:=sub_len nd (m:=GN n) fun x hx=>Ho.mpr (h x hx)
 simpa using this
def jQ:End->List V
 | .stop=>[.str "stop"]
 | .go _=>[.str "go"]
 | .cE b x n _ _=>[.str (wT b),.str x,.int n]
def mB:End->List Nat->End
 | .go _,[a]=>.go a
 | .cE b x n _ _,[a,c]=>.cE b x n a c
 | e,_=>e
theorem vz {e:End}{ns:List Nat}(h:ns.length=(aN e).length):fg (mB e ns)=jQ e++vN ns:=by
 cases e with
 | stop=>match ns,h with | [],_=>rfl
 | go p=>match ns,h with | [a],_=>rfl
 | cE b x n p q=>match ns,h with | [a,c],_=>rfl
theorem vA {H:Hp}{t:Addr}{e:End}(h:H t=some (.tup (fg e))):aX H (.ref t) (ni e):=by
 cases e with
 | stop=>exact .tup h (.cons (.str _) .nil)
 | go p=>exact .tup h (.cons (.str _) (.cons (.int _) .nil))
 | cE b x n p q=>exact .tup h (.cons (.str _) (.cons (.str _) (.cons (.int _) (.cons (.int _) (.cons (.int _) .nil)))))
def putAll (ms:List Nat)(ks:List Nat):List Nat:=ks.foldl LS.putIn ms
def jG (pc:Piece)(ks ms:List Nat):Piece:=(pc.1,mB pc.2 (ks.map ms.idxOf))
def fB (ps:List Piece)(st:Nat->Nat):Nat->List Nat->List Piece->List Nat×List Piece
 | 0,ms,outs=>(ms,outs)
 | f+1,ms,outs=>match ms[outs.length]? with
  | none=>(ms,outs)
  | some k=>match ps[k]? with
   | none=>(ms,outs)
   | some pc=>fB ps st f (putAll ms ((aN pc.2).map st)) (outs++[jG pc ((aN pc.2).map st) (putAll ms ((aN pc.2).map st))])
theorem qR {ps:List Piece}{st:Nat->Nat}{f k:Nat}{ms:List Nat}{outs:List Piece}{pc:Piece}(h:ms[outs.length]?=some k)(hp:ps[k]?=some pc) :
  fB ps st (f+1) ms outs=fB ps st f (putAll ms ((aN pc.2).map st)) (outs++[jG pc ((aN pc.2).map st) (putAll ms ((aN pc.2).map st))]):=by
 show (match ms[outs.length]? with
  | none=>(ms,outs)
  | some k=>match ps[k]? with
   | none=>(ms,outs)
   | some pc=>fB ps st f (putAll ms ((aN pc.2).map st)) (outs++[jG pc ((aN pc.2).map st) (putAll ms ((aN pc.2).map st))]))=_
 rw [h]
 show (match ps[k]? with
   | none=>(ms,outs)
   | some pc=>fB ps st f (putAll ms ((aN pc.2).map st)) (outs++[jG pc ((aN pc.2).map st) (putAll ms ((aN pc.2).map st))]))=_
 rw [hp]
theorem tQ {ps:List Piece}{st:Nat->Nat}{ms:List Nat}{outs:List Piece}(h:ms[outs.length]?=none):∀f,fB ps st f ms outs=(ms,outs)
 | 0=>rfl
 | f+1=>by
  show (match ms[outs.length]? with
  | none=>(ms,outs)
  | some k=>match ps[k]? with
   | none=>(ms,outs)
   | some pc=>fB ps st f (putAll ms ((aN pc.2).map st)) (outs++[jG pc ((aN pc.2).map st) (putAll ms ((aN pc.2).map st))]))=_
  rw [h]
theorem vB {ms:List Nat}{k:Nat}(h:ms.Nodup):(LS.putIn ms k).Nodup:=by
 unfold LS.putIn
 split
 ·exact h
 ·next hk =>
  rw [Hv]
  refine⟨h,by simp,fun x hx y hy z=>?_⟩
  rw [Gp.mp hy] at z
  exact hk (z ▸ hx)
theorem kT:∀{ks ms:List Nat},ms.Nodup->(putAll ms ks).Nodup
 | [],_,h=>h
 | k::ks,ms,h=>kT (ks:=ks) (vB h)
theorem kC {n:Nat}:∀{ks ms:List Nat},(∀x∈ms,x<n)->(∀x∈ks,x<n)->∀x∈putAll ms ks,x<n
 | [],_,h,_=>h
 | k::ks,ms,h,hk=>kC (ks:=ks) (ms:=LS.putIn ms k) (fun x hx=>by
   rcases LS.gN.mp hx with hx | hx
   ·exact h x hx
   ·rw [hx];exact hk k (GB ..)) fun x hx=>hk x (GC _ hx)
theorem jR:∀(ks ms:List Nat),∃more,putAll ms ks=ms++more
 | [],ms=>⟨[],by simp [putAll]⟩
 | k::ks,ms=>by
  obtain⟨more,e⟩:=jR ks (LS.putIn ms k)
  have e':putAll ms (k::ks)=putAll (LS.putIn ms k) ks:=rfl
  rw [e',e]
  unfold LS.putIn
  split
  ·exact⟨more,rfl⟩
  ·exact⟨k::more,by simp⟩
theorem putAll_snoc (ms ks:List Nat)(k:Nat):putAll ms (ks++[k])=LS.putIn (putAll ms ks) k:=by unfold putAll;rw [Ic];rfl
theorem z7 {ms ks:List Nat}{i k:Nat}(h:ks[i]?=some k):(LS.putIn (putAll ms (ks.take i)) k).idxOf k=(putAll ms ks).idxOf k:=by
 have e1:ks=(ks.take i++[k])++ks.drop (i+1):=by
  have h2:=List.take_append_drop (i+1) ks
  rw [G1,h] at h2
  exact h2.symm
 have e2:putAll ms ks=putAll (LS.putIn (putAll ms (ks.take i)) k) (ks.drop (i+1)):=by
  conv=>lhs;rw [e1]
  rw [<-putAll_snoc]
  unfold putAll
  rw [Ic]
 obtain⟨more,e3⟩:=jR (ks.drop (i+1)) (LS.putIn (putAll ms (ks.take i)) k)
 rw [e2,e3,IF,if_pos (LS.gN.mpr (.inr rfl))]
def gd (ss:List Nat)(k:Nat):Nat:=ss.getD k 0
def Bx (k:Nat):PyData:=.int (k:Nat)
def z8 (p:List Nat×List Piece):PyData:=.tuple [.tuple (p.2.map df),.tuple (p.1.map Bx)]
def kU:Sp:=fun vs H Q _=>∃(ea:Addr) (e:End),vs=[.ref ea]/\H ea=some (.tup (fg e))/\∀t H',H' t=some (.tup (jQ e))->ar H H'->Q (.ref t) H'
def pO:Sp:=fun vs H Q _=>∃(plv:V) (l:Addr) (ps:List Piece) (ss:List Nat),vs=[plv,.ref l]/\aX H plv (cN ps)/\bO ps/\H l=some (.lst (vN ss))/\ss.length=ps.length/\0<ps.length/\ps.length<=1000/\(∀k∈ss,k<ps.length) /\
 ∀v H',aX H' v (z8 (fB ps (gd ss) ps.length [gd ss 0] []))->ar H H'->Q v H'
def vC:Sp:=fun vs H Q _=>∃(pc da ea:Addr) (ws:List V) (ds:List cH) (e:End),vs=[.ref pc]/\H pc=some (.tup [.ref da,.ref ea])/\H da=some (.tup ws)/\br H ws (ds.map dI)/\H ea=some (.tup (fg e))/\Q (.bl (iR (ds,e))) H
def mC:Sp:=fun vs H Q _=>∃(plv:V) (ps:List Piece) (k:Nat),vs=[plv,.int (k:Nat)]/\aX H plv (cN ps)/\bO ps/\k<ps.length/\ps.length<=1000/\∀H',ar H H'->Q (.int (cg ps k:Nat)) H'
def fe (ps:List Piece):List Nat:=(GN ps.length).map (cg ps)
def bG (ps:List Piece):List Nat×List Piece:=fB ps (gd (fe ps)) ps.length [gd (fe ps) 0] []
def sj:Sp:=fun vs H Q _=>∃(plv:V) (ps:List Piece),vs=[plv]/\aX H plv (cN ps)/\bO ps/\0<ps.length/\ps.length<=1000/\∀v H',aX H' v (z8 (bG ps))->ar H H'->Q v H'
def mD:Sp:=fun vs H Q _=>∃(b:Addr) (c:Nat),vs=[.ref b,.int c]/\cQ H b/\0<c/\c<=1000/\∀v xs ps H',aX H' v (cN ps)->ps.length=c->cL xs 2 ps->((∀x∈xs,fZ x)/\xs.length<=4)->cQ H' b->Fix b H H'->Q v H'
theorem By {ps:List Piece}{k:Nat}(h:k<ps.length):gd (fe ps) k=cg ps k:=by
 unfold gd fe
 rw [Iu,GI,Ia h]
 rfl
theorem vD {H:Hp}:∀ms:List Nat,br H (vN ms) (ms.map Bx)
 | []=>.nil
 | _::ms=>.cons (.int _) (vD ms)
theorem vE {X:Cx}{K:Gh}(h:X.K=K):ze X (DJ K):=by subst h;exact cy
theorem fM:∀ds:List PyData,(∀d∈ds,d.canLay0=true)->(PyData.tuple ds).canLay0=true
 | [],_=>rfl
 | d::ds,h=>by
  have ih:=fM ds fun x hx=>h x (GC _ hx)
  show (d.canLay0&&(PyData.tuple ds).canLay0)=true
  rw [h d (GB ..),ih]
  rfl
theorem gP {x:Str}(h:fZ x):PyData.canLay0 (.str x)=true:=by
 show (x.cps.all fun c=>decide (c<0x110000))=true
 rw [<-Array.all_toList,Ie]
 intro c hc
 have:=h.az c hc
 exact decide_eq_true (by omega)
theorem Bz {xs:List Str}(hx:∀x∈xs,fZ x){d:cH}(h:eW xs d):(dI d).canLay0=true:=by
 cases d with
 | put x n =>
  refine fM _ fun y hy=>?_
  rcases Gu.mp hy with rfl | hy
  ·decide +kernel
  rcases Gu.mp hy with rfl | hy
  ·exact gP (hx _ h.1)
  rw [Gp.mp hy];rfl
 | copy x z =>
  refine fM _ fun y hy=>?_
  rcases Gu.mp hy with rfl | hy
  ·decide +kernel
  rcases Gu.mp hy with rfl | hy
  ·exact gP (hx _ h.1)
  rw [Gp.mp hy];exact gP (hx _ h.2)
 | add x n =>
  refine fM _ fun y hy=>?_
  rcases Gu.mp hy with rfl | hy
  ·decide +kernel
  rcases Gu.mp hy with rfl | hy
  ·exact gP (hx _ h.1)
  rw [Gp.mp hy];rfl
 | read x =>
  refine fM _ fun y hy=>?_
  rcases Gu.mp hy with rfl | hy
  ·decide +kernel
  rw [Gp.mp hy];exact gP (hx _ h)
 | tell x =>
  refine fM _ fun y hy=>?_
  rcases Gu.mp hy with rfl | hy
  ·decide +kernel
  rw [Gp.mp hy];exact gP (hx _ h)
theorem C6 {xs:List Str}(hx:∀x∈xs,fZ x){c:Nat}{e:End}(h:iO xs c e):(ni e).canLay0=true:=by
 cases e with
 | stop =>
  refine fM _ fun y hy=>?_
  rw [Gp.mp hy];decide +kernel
 | go p =>
  refine fM _ fun y hy=>?_
  rcases Gu.mp hy with rfl | hy
  ·decide +kernel
  rw [Gp.mp hy];rfl
 | cE b x n p q =>
  refine fM _ fun y hy=>?_
  rcases Gu.mp hy with rfl | hy
  ·cases b <;> decide +kernel
  rcases Gu.mp hy with rfl | hy
  ·exact gP (hx _ h.1)
  rcases Gu.mp hy with rfl | hy
  ·rfl
  rcases Gu.mp hy with rfl | hy
  ·rfl
  rw [Gp.mp hy];rfl
def FJ (ps:List Piece):Prop:=∀p∈ps,(PyData.tuple (p.1.map dI)).canLay0=true/\(ni p.2).canLay0=true
theorem BA {xs:List Str}(hx:∀x∈xs,fZ x){m:Nat}{ps:List Piece}(ok:cL xs m ps):FJ ps:=fun p hp =>
 ⟨fM _ fun d hd=>by obtain⟨x,hx',rfl⟩:=GH.mp hd;exact Bz hx ((ok.iP p hp).2 x hx'),C6 hx (ok.ends p hp)⟩
theorem sm (k:Nat):∀ms:List Nat,sY (.int (k:Nat)) (vN ms)=decide (k∈ms)
 | []=>rfl
 | m::ms=>by
  have ih:=sm k ms
  show ((((m:Nat):Int) == ((k:Nat):Int))||sY (.int (k:Nat)) (vN ms))=_
  rw [ih]
  by_cases e:m=k
  ·subst e;simp
  ·have e':¬(m:Int)=(k:Int):=by omega
   rw [beq_false_of_ne e',Bool.false_or]
   have:k∈m::ms↔k∈ms:=by rw [Gu];exact⟨fun h=>h.resolve_left fun z=>e z.symm,.inr⟩
   simp only [this]
theorem xA (ms:List Nat):(vN ms).all iM=true:=by rw [Ie];intro v hv;obtain⟨k,_,rfl⟩:=GH.mp hv;rfl
theorem z9 (ms:List Nat):vN ms=(ms.map fun k:Nat=>(k:Int)).map V.int:=by rw [Hu];rfl
section
variable {X:Cx}{pins:List (Addr×Obj)}{Gd : L2.St}{H:Hp}{s:Shared}{a:Addr}
end
section
variable {X:Cx}
end
theorem BB {x:Str}(h:fZ x):PyData.canLay0 (.str x)=true:=by
 show (x.cps.all fun c=>decide (c<0x110000))=true
 rw [<-Array.all_toList,Ie]
 intro c hc
 have:=h.az c hc
 exact decide_eq_true (by omega)
def yB (T:Str->Sx)(m:Nat):Prop:=∀ss:List Str,(∀x∈ss,T x≠fi)->ss.Nodup->ss.length<=m
def so (aA:Addr):Sp:=fun vs H Q _=>∃(fv:V) (x:Str) (T:Str->Sx),vs=[fv,.str x]/\FV H fv T/\∀v H',SV aA H' v (T x)->ar H H'->Q v H'
def lu (aA:Addr):Sp:=fun vs H Q _=>∃(fv sv:V) (x:Str) (T:Str->Sx) (s:Sx),vs=[fv,.str x,sv]/\FV H fv T/\SV aA H sv s/\yB T 62/\∀v H',FV H' v (gC T x s)->ar H H'->Q v H'
section
variable {X:Cx}
end
def sr (K:Gh):Sp:=fun vs H Q _=>∃(n:Int) (q:Addr) (lo hi:Option Int),vs=[.int n,.ref q]/\ay K H q [vO lo,vO hi]/\Q (.bl (kL n lo hi)) H
def jH (K:Gh)(F:Option Int->Option Int->Int->Rs):Sp:=fun vs H Q _=>∃(p:Addr) (n:Int) (lo hi:Option Int),vs=[.ref p,.int n]/\ay K H p [vO lo,vO hi]/\∀v H',RV H' v (F lo hi n)->ar H H'->Q v H'
def ox (K:Gh):Sp:=fun vs H Q _=>∃(p:Addr) (w:Str) (n:Int) (side:Bool) (lo hi:Option Int),vs=[.ref p,.str w,.int n,.bl side]/\ay K H p [vO lo,vO hi]/\∀v H',RV H' v (dM w lo hi n side)->ar H H'->Q v H'
def ij (T:Str->Sx)(b:Bool)(x:Str)(n:Int)(side:Bool):Rs:=dM (wT b) (T x).1 (T x).2 n side
def jI (T:Str->Sx):End->List (Option (Str->Sx))
 | .stop=>[]
 | .go _=>[some T]
 | .cE b x n _ _=>[(ij T b x n true).map (gC T x),(ij T b x n false).map (gC T x)]
def BV (H:Hp)(u:V):Option (Str->Sx)->Prop
 | none=>u=.bL
 | some T=>FV H u T
theorem BV.bp {H H':Hp}{u:V}{o:Option (Str->Sx)}(h:BV H u o)(k:∀p xs,H p=some (.tup xs)->H' p=some (.tup xs)):BV H' u o:=by
 cases o with
 | none=>exact h
 | some T=>exact FV.bp h k
def mT (H:Hp)(us:List V)(os:List (Option (Str->Sx))):Prop:=Paired (BV H) us os
def dP (T:Str->Sx)(e:End):List (Nat×(Str->Sx)):=((aN e).zip (jI T e)).filterMap fun p=>p.2.map fun U=>(p.1,U)
def pP (aA:Addr):Sp:=fun vs H Q _=>∃(fv:V) (ea:Addr) (T:Str->Sx) (e:End),vs=[fv,.ref ea]/\FV H fv T/\H ea=some (.tup (fg e))/\yB T 62 /\
 ∀(t:Addr) (us:List V) (H':Hp),H' t=some (.tup us)->mT H' us (jI T e)->ar H H'->Q (.ref t) H'
def PV (H:Hp)(v:V)(p:Nat×(Str->Sx)):Prop:=∃q u,v=.ref q/\H q=some (.tup [.int p.1,u])/\FV H u p.2
theorem PV.bp {H H':Hp}{v:V}{p:Nat×(Str->Sx)}(h:PV H v p)(k:∀p xs,H p=some (.tup xs)->H' p=some (.tup xs)):PV H' v p:=by
 obtain⟨q,u,e,h1,h2⟩:=h
 exact⟨q,u,e,k _ _ h1,h2.bp k⟩
def nQ (H:Hp)(vs:List V)(ps:List (Nat×(Str->Sx))):Prop:=Paired (PV H) vs ps
theorem nQ.bp {H H':Hp}(k:∀p xs,H p=some (.tup xs)->H' p=some (.tup xs)):∀{vs:List V} {ps:List (Nat×(Str->Sx))},nQ H vs ps->nQ H' vs ps
 | _,_,.nil=>.nil
 | _,_,.cons h t=>.cons (h.bp k) (nQ.bp k t)
theorem mT.bp {H H':Hp}(k:∀p xs,H p=some (.tup xs)->H' p=some (.tup xs)):∀{vs:List V} {ps:List (Option (Str->Sx))},mT H vs ps->mT H' vs ps
 | _,_,.nil=>.nil
 | _,_,.cons h t=>.cons (h.bp k) (mT.bp k t)
theorem nQ.same {H H':Hp}{vs:List V}{ps:List (Nat×(Str->Sx))}(h:nQ H vs ps)(s:ar H H'):nQ H' vs ps:=h.bp fun p xs e=>s _ _ e
theorem mT.same {H H':Hp}{vs:List V}{ps:List (Option (Str->Sx))}(h:mT H vs ps)(s:ar H H'):mT H' vs ps:=h.bp fun p xs e=>s _ _ e
def sx (aA:Addr):Sp:=fun vs H Q _=>∃(fv:V) (ea:Addr) (T:Str->Sx) (e:End),vs=[fv,.ref ea]/\FV H fv T/\H ea=some (.tup (fg e))/\yB T 62 /\
 ∀(t:Addr) (vs:List V) (H':Hp),H' t=some (.tup vs)->nQ H' vs (dP T e)->ar H H'->Q (.ref t) H'
def vF (T:Str->Sx):Prop:=∀x,T x≠fi->PyData.canLay0 (.str x)=true
theorem Aa {T:Str->Sx}(h:vF T):∀ss:List Str,(∀x∈ss,T x≠fi)->(gO T ss).canLay0=true
 | [],_=>rfl
 | x::ss,hs=>by
  have ih:=Aa h ss fun y hy=>hs y (GC _ hy)
  show ((PyData.canLay0 (.str x)&&((dS (T x)).canLay0&&true))&&(gO T ss).canLay0)=true
  rw [h x (hs x (GB ..)),Ck,ih]
  rfl
theorem Ei (T:Str->Sx)(ss:List Str):(gO T ss).depth<=3:=by
 have go:∀ss:List Str,PyData.depthAll (ss.map (dF T))<=2:=by
  intro ss
  induction ss with
  | nil=>exact GK _
  | cons x ss ih =>
   show max (max 0 (max ((dS (T x)).depth) 0)+1) (PyData.depthAll (ss.map (dF T)))<=2
   have hd:(dS (T x)).depth<=1:=by
    obtain⟨a,b⟩:=T x
    cases a <;> cases b <;> (show (1:Nat)<=1;decide)
   omega
 show PyData.depthAll (ss.map (dF T))+1<=3
 have:=go ss
 omega
theorem C7 {T:Str->Sx}{e:End}(h:(aN e).length<2):jI T e=(aN e).map fun _=>some T:=by
 cases e with
 | stop=>rfl
 | go p=>rfl
 | cE b x n p q=>exact absurd h (by show ¬2<2;omega)
theorem xB {H:Hp}{fv:V}{T:Str->Sx}(h:FV H fv T):∀l:List Nat,mT H (Io l.length fv) (l.map fun _=>some T)
 | []=>.nil
 | _::l=>.cons h (xB h l)
def oX (H:Hp)(vs:List V)(rs:List Rs):Prop:=Paired (RV H) vs rs
theorem oX.same {H H':Hp}(s:ar H H'):∀{vs:List V} {rs:List Rs},oX H vs rs->oX H' vs rs
 | _,_,.nil=>.nil
 | _,_,.cons h t=>.cons (h.same s) (oX.same s t)
theorem oX.put {H:Hp}{l:Addr}{xs:List V}{o:HO}(hl:H l=some (.lst xs)):∀{vs:List V} {rs:List Rs},oX H vs rs->oX (upd H l o) vs rs
 | _,_,.nil=>.nil
 | _,_,.cons h t=>.cons (h.put hl) (oX.put hl t)
theorem RV.sv {aA:Addr}{H:Hp}{v:V}{s:Sx}(h:RV H v (some s)):SV aA H v s:=by
 obtain⟨a,b⟩:=s
 obtain⟨p,e,h⟩:=h
 exact .inl ⟨p,e,h⟩
def nR (ss:List Str):PyData:=.tuple (ss.map fun x=>.tuple [.str x,.tuple [.int 0,.int 0]])
def sy:Sp:=fun vs H Q _=>∃(plv:V) (ps:List Piece) (xs:List Str) (m:Nat),vs=[plv]/\aX H plv (cN ps)/\cL xs m ps/\xs.length<64/\(bU ps).length<=4000 /\
 ∀(v:V) (ss:List Str) (H':Hp),aX H' v (nR ss)->ss.Perm (dZ (bU ps))->sortedS ss=true->ar H H'->Q v H'
theorem iB:∀ss:List Str,cJ (ss.map fun x=>PyData.tuple [.str x,.tuple [.int 0,.int 0]])=true
 | []=>rfl
 | x::ss=>by
  show (true&&cJ (ss.map fun x=>PyData.tuple [.str x,.tuple [.int 0,.int 0]]))=true
  rw [iB ss];rfl
theorem Ab {T:Str->Sx}{e:End}{i k:Nat}{o:Option (Str->Sx)}(h1:(aN e)[i]?=some k)(h2:(jI T e)[i]?=some o) :
  (((aN e).zip (jI T e)).take (i+1)).filterMap (fun p=>p.2.map fun U=>(p.1,U))=(((aN e).zip (jI T e)).take i).filterMap (fun p=>p.2.map fun U=>(p.1,U))++(o.map fun U=>(k,U)).toList:=by
 have hz:((aN e).zip (jI T e))[i]?=some (k,o):=by rw [List.getElem?_zip_eq_some];exact⟨h1,h2⟩
 rw [G1,hz,List.filterMap_append]
 cases o <;> rfl
theorem kW {α β : Type}{F:α->β->Prop}{l:List α}{m:List β}(h:Paired F l m){i:Nat}{x:α}(e:l[i]?=some x):∃y,m[i]?=some y/\F x y:=LS.mr h e
theorem g9 {α β : Type}{F:α->β->Prop}:∀{l l':List α} {m m':List β},Paired F l m->Paired F l' m'->Paired F (l++l') (m++m')
 | _,_,_,_,.nil,h=>h
 | _,_,_,_,.cons r t,h=>.cons r (g9 t h)
section
variable {prog:Program}{w:World}{A:Around}{E:Value->Shared->Prop}{s:Shared}
end
section
variable {X:Cx}
end
theorem C8 {xs:List Str}{m:Nat}{ps:List Piece}(ok:cL xs m ps):(bU ps).length<=ps.length*(2*m+1):=by
 unfold bU
 have h:∀p∈ps,(pNames p).length<=2*m+1:=fun p hp=>by
  have h1:=(ok.iP p hp).1
  unfold pNames
  rw [Gr]
  have h2:(p.1.flatMap eD).length<=2*p.1.length:=by
   induction p.1 with
   | nil=>simp
   | cons d ds ih =>
    rw [List.flatMap_cons,Gr,GZ]
    have:(eD d).length<=2:=by cases d <;> simp [eD]
    omega
  have h3:(ku p.2).length<=1:=by cases p.2 <;> simp [ku]
  omega
 clear ok
 induction ps with
 | nil=>simp
 | cons p ps ih =>
  rw [List.flatMap_cons,Gr,GZ]
  have h1:=h p (GB ..)
  have h2:=ih fun q hq=>h q (GC _ hq)
  rw [Nat.add_mul]
  omega
theorem wg {K:Gh}{cd:Value}{q:Str}(h:Gm K cd q=true):IG K cd=true:=by
 unfold Gm at h
 unfold IG
 split at h
 ·split at h
  ·rename_i ho
   dsimp only
   rw [ho]
  ·cases h
 ·cases h
theorem C9 {prog:Program}{w:World}{A:Around}{E:Value->Shared->Prop}{s:Shared}{Q:Value->Shared->Prop}(q:Q (.ref s.heap.objs.size) { s with heap:=s.heap.push (dh w) }):wpAny (model prog w) A (newSet (.type "set")) Q E s:=by
 unfold newSet setsByText
 refine IZ (IZ (Jz (I0 ?_)))
 dsimp only
 simp only [newObj]
 first
  | exact Jv (I0 q)
  | exact IZ (Jv (I0 q))
  | exact IZ (Jv (I0 (I0 q)))
  | exact IZ (Jv q)
section
variable {X:Cx}
theorem Dc {e:Expr}{k:Nat}{pos:Pos}{te:TE}(hc:IG X.K X.env.code=true)(he:PE X e te)(hk:displayRoad k [e]=.oneByOne:=by rfl)(hs:starEach [e] X.env=[(false,eval e X.env)]:=by rfl) :
  PE X (.Set [e] k pos) (fun Gd H Q=>∀l,H l=none->te Gd (upd H l (bW X.prog X.w l [])) fun x H1=>H1 l=some (bW X.prog X.w l [])/\∃kk,x=kV kk/\Q (.ref l) (upd H1 l (bW X.prog X.w l [kk]))):=by
 intro pins s Gd H Q I h
 rw [arm_eval_Set]
 refine IZ (Jp ?_)
 refine IZ (PySem.W.kds_main I.jn hc fun b=>?_)
 rw [hs,hk]
 unfold setDisplay
 dsimp only
 rw [if_neg (by decide)]
 refine IZ (C9 ?_)
 dsimp only
 simp only [GS,HG,GZ,HV,Nat.reduceAdd,gt_iff_lt,Nat.reduceLT,if_false,List.findIdx?_cons,List.findIdx?_nil,Option.map_none,Option.getD_none,List.take_succ_cons,List.take_zero,List.drop_succ_cons,List.drop_nil,evalAll,Hk]
 have hS:fh (aW X.prog X.w) (s.heap.push (dh X.w)) s.heap.objs.size []:=nF rfl (Gx _ rfl)
 have I1:Inv X pins Gd (upd H s.heap.objs.size (bW X.prog X.w s.heap.objs.size [])) { s with heap:=s.heap.push (dh X.w) }:=I.laid (t':=s.toks) (fun b o e=>Gs _ e) (Gi _) (lQ hS)
 refine IZ (Jc ?_)
 refine IZ (IZ (IZ (bo (he pins _ Gd _ _ I1 (h _ I.fresh)) fun v s1 ⟨x,H1,I2,rx,hl1,kk,ex,q⟩=>IZ (Jp (I0 ?_)))))
 subst ex
 refine IZ (Jc (I0 (I0 ?_)))
 refine IZ (Jc ?_)
 simp only [HA,Iy]
 refine IZ (IZ (IZ (sd (lR rx) (I2.pJ hl1) (by decide) fun h' b S' c=>I0 ?_)))
 refine I0 ?_
 rw [if_neg (by decide)]
 refine I0 ?_
 refine IZ (I0 (I0 (I0 ?_)))
 have e1:LS.putIn ([]:List Key) kk=[kk]:=by unfold LS.putIn;rw [if_neg (by simp)];rfl
 rw [e1] at S'
 refine⟨.ref s.heap.objs.size,_,I2.write (t':=s1.toks+1) (x:=s.heap.objs.size) (e:=s.heap.objs.size) (by rw [hl1];exact trivial) (.inl rfl) (fun c u' hc hu=>b.extBut c u' hc hu) ?_ (lQ S'),rfl,q⟩
 obtain⟨o,_,_,_,So⟩:=S'
 exact⟨o,So.at_⟩
end
section
variable {prog:Program}{w:World}{A:Around}{E:Value->Shared->Prop}{s:Shared}
theorem Ac {d:Addr}(hd:(d == sysModules)=false) :
  MeetsIn prog w (Builtin.«dict.__len__» ⟨[.ref d],[]⟩) (fun _ R s=>∃(o:Obj) (es:Array DictEntry) (ep:Nat),s.heap.get? d=some o/\o.data=.dict es ep/\R (.ok (.ret (.int es.size s.toks))) { s with toks:=s.toks+1 }) :=
 .of_wp fun A R s ⟨o,es,ep,ho,hdat,h⟩=>by
  show wpAny _ _ (dictSize d >>= _) _ _ s
  unfold dictSize
  refine IZ (IZ (wpAny_dictEntries ho hdat (I0 ?_)))
  show wpAny _ _ (Builtin.Dict.pendingCount d >>= _) _ _ s
  refine IZ (wpAny_pendingCount_other hd ?_)
  refine wpAny_ret_mkInt ?_
  rw [Nat.add_zero];exact h
theorem Dd {d:Addr}{o:Obj}{es:Array DictEntry}{ep:Nat}{Q:Value->Shared->Prop}(hd:(d == sysModules)=false)(ho:s.heap.get? d=some o)(hc:o.ExactDict)(hdat:o.data=.dict es ep)(hfit:(es.size:Int)<2 ^ 63)
  (h:Q (.int es.size (s.toks+1)) { s with toks:=s.toks+1+1 }):wpAny (model prog w) A (call (.builtin "len") [.ref d]) Q E s:=by
 refine Calls.call_function_entry kind_len plain_len entry_len (args_len1 _) ?_
 have hT:s.TypeIs (.ref d) "dict" := ⟨o,ho,hc.1⟩
 unfold Builtin.«len»
 refine IZ (m:=oneArg "len" _) (I0 ?_)
 refine IZ (m:=callSpecial? (.ref d) (Str.ofString "__len__")) (wpAny_callSpecial?_slot (name:=Str.ofString "__len__") hT F.slot_dict_len
  (call_meetsIn F.slot_dict_len hT F.entry_dict_len (F.args_dict_len_1 _) (Ac hd) ⟨o,es,ep,ho,hdat,?_⟩))
 show wpAny _ _ _ _ _ { s with toks:=s.toks+1 }
 refine IZ (Jc (I0 ?_))
 refine IZ (wpAny_letGo ?_)
 show wpAny _ _ (if ((es.size:Nat):Int)<0 then _ else _) _ _ _
 rw [if_neg (by omega)]
 show wpAny _ _ (if ((es.size:Nat):Int) >= 2 ^ 63 then _ else _) _ _ _
 rw [if_neg (by omega)]
 exact IZ (wpAny_mkInt (I0 ⟨_,rfl,h⟩))
end
section
variable {X:Cx}
theorem yC:eZ X (.builtin "len") (fun xs H Q=>∃a kvs,xs=[V.ref a]/\H a=some (fV X.prog X.w a kvs)/\Q (.int kvs.length) H):=by
 intro pins s Gd H xs us Q I r h
 obtain⟨a,kvs,rfl,ha,q⟩:=h
 obtain⟨u,rfl,ru⟩:=vals1 r
 cases ru
 obtain⟨h1,h2,xs,o,es,ep,g1,g2,g3,g4,g5,g6⟩:=(show nN X.prog X.w a kvs s.heap from (I.aZ a _ ha).1)
 have hz:es.size=kvs.length:=by rw [g6.len,<-G4,g4,Gg]
 have hn:=jr
 refine Dd h1 g1 g2 g3 (by omega) ?_
 rw [hz]
 exact⟨.int _,H,I.tok _,⟨_,rfl⟩,q⟩
theorem BC {pos:Pos}{keys:List (Option Expr)}{values:List Expr}{trs:List (TE×TE)}(hu:X.A.units+66<cLine)(h:zw X pos keys values trs)(hall:keys.all (·.isSome)=true)(hl:keys.length=values.length)(h0:keys≠[])
  (h15:keys.length<=15):PE X (.Dict keys values pos) (fun Gd H Q=>∀p,H p=none->qv trs Gd (upd H p (fV X.prog X.w p [])) fun ps H2=>H2 p=some (fV X.prog X.w p [])/\∃k v d,ps=[(.ref k,v)]/\lr d/\aX H2 (.ref k) d/\Q (.ref p) (upd H2 p (fV X.prog X.w p [(d,k,v)]))):=by
 intro pins s Gd H Q I q
 have hn:=I.aZ.fresh (Gi s.heap.objs.size)
 obtain⟨_,hb,_⟩:=(show cA X.prog X.w H _ s.heap.objs.size (.dK []) from pA s.heap I.big)
 have D0:nN X.prog X.w s.heap.objs.size [] (s.heap.push { cls:=.type "dict",data:=.dict #[] }):=⟨hb,GK _,[],_,#[],0,Gx _ rfl,⟨rfl,rfl,rfl⟩,rfl,rfl,HB,.nil⟩
 have I1:=I.laid (a:=s.heap.objs.size) (o:=fV X.prog X.w s.heap.objs.size []) (h':=s.heap.push { cls:=.type "dict",data:=.dict #[] }) (t':=s.toks) (fun _ _ q=>Gs _ q) (Gi _) (pN D0)
 refine wpAny_Dict_any hall hl h0 h15 (bo (h pins _ Gd _ _ I1 (q _ hn)) fun ws s2 ⟨ps,H2,I2,rel,e,k,v,d,ep,hk,r,q2⟩=>?_)
 subst ep
 cases rel with
 | @cons _ wp _ _ hr t =>
 cases t
 obtain⟨wk,wv⟩:=wp
 obtain⟨r1,r2⟩:=hr
 cases (show wk=Value.ref k from r1)
 obtain⟨hd0,_,xs,kx,dd⟩:=qQ I2 e (fun p hp=>nomatch hp)
 cases kx
 unfold storeAll
 simp only [HA,Iy]
 refine IZ (IZ (wpAny_dictSet_heap (knd:=ky X.prog X.w) (show X.A.units+64<cLine by omega) (key_is I2 hk r) dd (fun h' hm' hs'=>I0 (I0 ?_)) (GK _)))
 obtain⟨o',es,ep,g1,g2,g3,g4,g5,g6⟩:=id hm'
 refine⟨.ref s.heap.objs.size,_,I2.write (t':=_) (x:=s.heap.objs.size) (e:=s.heap.objs.size) (by rw [e];exact trivial) (.inl rfl) (fun c u' hc hu=>(hs'.2 c hc).trans hu) ⟨o',g1⟩ (pN ⟨hd0,(by show 1<=sizeLine;decide),[(d,k,wv)],o',es,ep,g1,g2,g3,g4,g6,.cons ⟨rfl,rfl,r2⟩ .nil⟩),rfl,q2⟩
end
section
variable {X:Cx}
end
theorem vG {A:Around}{k:Nat}(hr:cY k A):A.units+66<cLine:=by have:=hr.un;omega
section
variable {P:Program}{w:World}{K:Gh}{mg:Str->Option Value}{base:Heap}
theorem bS.Ga {x qual:Str}{st:Stmt}{f:Addr}{fd:FuncData}{N ps:List Str}{k:Nat}{sp:Sp}(F:bS K x qual st f fd)(S:aO N ps (au st))(len:∀vs H Q E,sp vs H Q E->vs.length=ps.length)
  (hbody:∀(cdv:Value) (A:Around) (outer:List Env) (s:Shared) (H:Hp) (vs:List V) (Q:VK) (E:XK),IG K cdv=true->cY k (A.deeper (envOfC qual (au st) s.heap.objs.size f cdv))->sp vs H Q E ->
   ∃t,kJ (o9 bQ P w K mg base N qual (au st) f cdv A outer s H E).wK (aJ st) t/\t { nx:=fun _ H'=>Q .bL H',rt:=Q } (start N vs) H):bh P w K mg base bQ (k+1) f fd ps sp:=by
 obtain⟨oc,od,kV,doc,pm,an,cdv,ct,osl,rfl,lk,hcd⟩:=F.ex
 refine B7 lk hcd S len fun A outer s H vs Q E hr hsp=>?_
 obtain⟨t,h,q⟩:=hbody cdv A outer s H vs Q E (wg hcd) hr hsp
 exact⟨t,h.wK,q⟩
end
def dA:Nat->List (PyData×Addr)->List (PyData×Addr×V)
 | _,[]=>[]
 | n,p::ps=>(p.1,p.2,.int (n:Nat))::dA (n+1) ps
theorem pQ:∀(n:Nat) (ms:List (PyData×Addr)),(dA n ms).length=ms.length
 | _,[]=>rfl
 | n,_::ms=>congrArg (· + 1) (pQ (n+1) ms)
theorem vH:∀(n:Nat) (ms:List (PyData×Addr)) (p:PyData×Addr),dA n (ms++[p])=dA n ms++[(p.1,p.2,.int ((n+ms.length:Nat):Int))]
 | n,[],p=>rfl
 | n,q::ms,p=>by
  show (q.1,q.2,V.int (n:Nat))::dA (n+1) (ms++[p])=_
  rw [vH (n+1) ms p,show n+1+ms.length=n+(q::ms).length by rw [GZ];omega]
  rfl
theorem vI:∀(n:Nat) (ms:List (PyData×Addr)),∀q∈dA n ms,∃p∈ms,q.1=p.1/\q.2.1=p.2
 | _,[],q,hq=>nomatch hq
 | n,p::ms,q,hq=>by
  rcases Gu.mp hq with rfl | hq
  ·exact⟨p,GB ..,rfl,rfl⟩
  ·obtain⟨p',hp,r⟩:=vI (n+1) ms q hq
   exact⟨p',GC _ hp,r⟩
theorem mE (d:PyData):∀(n:Nat) (ms:List (PyData×Addr)),fL (dA n ms) d=if d∈ms.map (·.1) then some (.int ((n+(ms.map (·.1)).idxOf d:Nat):Int)) else none
 | n,[]=>by simp [dA,fL]
 | n,p::ms=>by
  have ih:=mE d (n+1) ms
  by_cases h:p.1=d
  ·have e1:fL (dA n (p::ms)) d=some (.int (n:Nat)):=by
    unfold fL dA
    rw [IT (by exact decide_eq_true h)]
    rfl
   rw [e1,if_pos (by rw [GS,h];exact GB ..),GS,h,List.idxOf_cons_self]
   rfl
  ·have e1:fL (dA n (p::ms)) d=fL (dA (n+1) ms) d:=by
    show fL ((p.1,p.2,V.int (n:Nat))::dA (n+1) ms) d=_
    unfold fL
    rw [IU (by rw [decide_eq_false h];decide)]
   rw [e1,ih,GS]
   by_cases hm:d∈ms.map (·.1)
   ·rw [if_pos hm,if_pos (GC _ hm),Ig,beq_false_of_ne h]
    simp only [cond_false]
    congr 3
    omega
   ·rw [if_neg hm,if_neg (fun z=>(Gu.mp z).elim (fun z=>h z.symm) hm)]
structure iS (P:Program) (w:World) (C:Addr) (H:Hp) (r m d:Addr) (ms:List (PyData×Addr)):Prop where
 ob:∃dx,H r=some (.ins C dx (my (.ref m) (.ref d)))
 mem:H m=some (.lst (ms.map fun p=>V.ref p.2))
 jw:H d=some (fV P w d (dA 0 ms))
 keys:∀p∈ms,lr p.1/\aX H (.ref p.2) p.1
noncomputable def mF (ms:List (PyData×Addr)) (d:PyData) (k:Addr):List (PyData×Addr):=if d∈ms.map (·.1) then ms else ms++[(d,k)]
section
variable {P:Program}{w:World}{C r m d:Addr}{H H':Hp}{ms:List (PyData×Addr)}
theorem iS.lC (A:iS P w C H r m d ms):Co H (dA 0 ms):=fun q hq=>by
 obtain⟨p,hp,e1,e2⟩:=vI 0 ms q hq
 rw [e1,e2]
 exact A.keys p hp
theorem iS.tu (A:iS P w C H r m d ms):r≠m/\r≠d/\d≠m:=by
 obtain⟨dx,h1⟩:=A.ob
 refine⟨bB h1 A.mem ?_,bB h1 A.jw ?_,bB A.jw A.mem ?_⟩ <;> (intro z;cases z)
end
section
variable (P:Program)(w:World)(C:Addr)
def jS:Sp:=fun vs H Q _=>∃(r dx k:Addr) (d0:PyData),vs=[.ref r,.ref k]/\H r=some (.ins C dx [])/\lr d0/\aX H (.ref k) d0/\cC d0=true /\
 ∀(m d:Addr) (H':Hp),iS P w C H' r m d [(d0,k)]->(∀c o,H c=some o->c≠r->H' c=some o)->H m=none->H d=none->Q .bL H'
def jT:Sp:=fun vs H Q _=>∃(r m d k:Addr) (d0:PyData) (ms:List (PyData×Addr)),vs=[.ref r,.ref k]/\iS P w C H r m d ms/\ms.length<=1000/\lr d0/\aX H (.ref k) d0/\cC d0=true/\(∀p∈ms,cC p.1=true) /\
 ∀H',iS P w C H' r m d (mF ms d0 k)->gF m d H H'->Q (.int (((mF ms d0 k).map (·.1)).idxOf d0:Nat)) H'
end
inductive nS (ps:List Piece):Nat->Prop
 | zero:nS ps 0
 | step {i k:Nat} {ds:List cH} {e:End}:nS ps i->ps[i]?=some (ds,e)->k∈aN e->nS ps k
def dq (ps:List Piece)(k:Nat):Prop:=∃i ds e,nS ps i/\ps[i]?=some (ds,e)/\k∈aN e/\k<=i
abbrev kI (ks:List Nat):List Key:=ks.map fun k:Nat=>(Sum.inl (k:Int):Key)
theorem vJ {ks:List Nat}{k:Nat}:(Sum.inl (k:Int):Key)∈kI ks↔k∈ks:=by
 rw [GH]
 constructor
 ·rintro⟨x,hx,e⟩
  have:=Sum.inl.inj e
  rw [show k=x by omega];exact hx
 ·intro h;exact⟨k,h,rfl⟩
theorem Ad {ks:List Nat}{k:Nat}:LS.putIn (kI ks) (Sum.inl (k:Int))=kI (LS.putIn ks k):=by
 unfold LS.putIn
 by_cases h:k∈ks
 ·rw [if_pos h,if_pos (vJ.mpr h)]
 ·rw [if_neg h,if_neg (fun z=>h (vJ.mp z))]
  show _=(ks++[k]).map _
  rw [Gz];rfl
theorem xC (ks:List Nat):kI ks=(ks.map fun k:Nat=>(k:Int)).map Sum.inl:=by rw [Hu];rfl
structure yD (ps:List Piece) (ks ws:List Nat):Prop where
 nd:ks.Nodup
 lt:∀k∈ks,k<ps.length
 Ej:∀k∈ks,nS ps k
 zero:0∈ks
 sub:∀k∈ws,k∈ks
 done:∀k∈ks,k∈ws\/∀ds e,ps[k]?=some (ds,e)->∀j∈aN e,j∈ks
theorem yD.all {ps:List Piece}{ks:List Nat}(h:yD ps ks []):∀k,k∈ks↔nS ps k:=fun k=>by
 refine⟨h.Ej k,fun r=>?_⟩
 induction r with
 | zero=>exact h.zero
 | step r hp hk ih=>exact (h.done _ ih).elim (fun z=>nomatch z) fun z=>z _ _ hp _ hk
theorem lU {ps:List Piece}(hin:bO ps){i:Nat}{ds:List cH}{e:End}(h:ps[i]?=some (ds,e)):∀k∈aN e,k<ps.length:=fun k hk=>by
 have h1:=hin _ (GJ h)
 cases e with
 | stop=>cases hk
 | go p=>rw [Gp.mp hk];exact h1
 | cE b x n p q =>
  rcases Gu.mp hk with z | z
  ·rw [z];exact h1.1
  ·rw [Gp.mp z];exact h1.2
def nT:Sp:=fun vs H Q _=>∃(plv:V) (ps:List Piece),vs=[plv]/\aX H plv (cN ps)/\bO ps/\0<ps.length/\ps.length<=60 /\
 ∀(t:Addr) (ks:List Nat) (H':Hp),H' t=some (.tup (vN ks))->(∀k,k∈ks↔nS ps k)->(∀k∈ks,k<ps.length)->ks.length<=60->ar H H'->Q (.ref t) H'
def sA:Sp:=fun vs H Q _=>∃(plv:V) (ps:List Piece),vs=[plv]/\aX H plv (cN ps)/\bO ps/\0<ps.length/\ps.length<=60 /\
 ∀(t:Addr) (ks:List Nat) (H':Hp),H' t=some (.tup (vN ks))->(∀k,k∈ks↔dq ps k)->ks.length<=60->ar H H'->Q (.ref t) H'
theorem nU {ss:List Int}{ks:List Nat}(h:ss.Perm (ks.map fun k:Nat=>(k:Int))):∃ms:List Nat,ss=ms.map (fun k:Nat=>(k:Int))/\ms.Perm ks:=by
 refine⟨ss.map HN,?_,?_⟩
 ·rw [Hu]
  have:∀x∈ss,((fun k:Nat=>(k:Int)) ∘ HN) x=x:=fun x hx=>by
   obtain⟨k,_,rfl⟩:=GH.mp (h.mem_iff.mp hx)
   show ((HN (k:Int):Nat):Int)=k
   omega
  rw [HK this,List.map_id']
 ·have:=h.map HN
  rw [Hu] at this
  have e:ks.map (HN ∘ fun k:Nat=>(k:Int))=ks:=by
   rw [HK (g:=id) (fun x _=>by show HN (x:Int)=x;omega),List.map_id]
  rw [e] at this
  exact this
abbrev Cp:=Nat×(Str->Sx)
def T0:Str->Sx:=fun _=>fi
def FD (T:Str->Sx)(d:PyData):Prop:=∃ss:List Str,kP ss/\(∀x,x∈ss↔T x≠fi)/\d=gO T ss
theorem FV.fd {H:Hp}{v:V}{T:Str->Sx}(h:FV H v T):∃d,FD T d/\aX H v d:=by
 obtain⟨p,xs,ss,rfl,hp,srt,hm,r⟩:=h
 exact⟨_,⟨ss,srt,hm,rfl⟩,.tup hp r⟩
theorem FD.fv {H:Hp}{v:V}{T:Str->Sx}{d:PyData}(h:FD T d)(r:aX H v d):FV H v T:=by
 obtain⟨ss,srt,hm,rfl⟩:=h
 obtain⟨p,xs,rfl,hp,r⟩:=aX.bN r
 exact⟨p,xs,ss,rfl,hp,srt,hm,r⟩
theorem FD.unique {T:Str->Sx}{d d':PyData}(h:FD T d)(h':FD T d'):d=d':=by
 obtain⟨ss,srt,hm,rfl⟩:=h
 obtain⟨ss',srt',hm',rfl⟩:=h'
 rw [srt.unique srt' fun x=>by rw [hm,hm']]
theorem Ae {a b:Option Int}(h:dO a=dO b):a=b:=by
 cases a with
 | none=>cases b with
  | none=>rfl
  | some _=>cases h
 | some i=>cases b with
  | none=>cases h
  | some j=>injection h with h;rw [h]
theorem Ek {a b:Sx}(h:dS a=dS b):a=b:=by
 obtain⟨a1,a2⟩:=a
 obtain⟨b1,b2⟩:=b
 have h1:[dO a1,dO a2]=[dO b1,dO b2]:=by injection h
 injection h1 with h1 h2
 injection h2 with h2 _
 rw [Ae h1,Ae h2]
theorem xD {T T':Str->Sx}:∀{ss ss':List Str},ss.map (dF T)=ss'.map (dF T')->ss=ss'/\∀x∈ss,T x=T' x
 | [],[],_=>⟨rfl,fun _ h=>nomatch h⟩
 | [],_::_,h=>by cases h
 | _::_,[],h=>by cases h
 | x::ss,y::ss',h=>by
  rw [GS,GS] at h
  injection h with h1 h2
  have h3:[PyData.str x,dS (T x)]=[PyData.str y,dS (T' y)]:=by injection h1
  injection h3 with h4 h5
  injection h5 with h5 _
  have exy:x=y:=by injection h4
  subst exy
  obtain⟨e,hr⟩:=xD h2
  refine⟨by rw [e],fun z hz=>?_⟩
  rcases Gu.mp hz with rfl | hz
  ·exact Ek h5
  ·exact hr z hz
theorem FD.inj {T T':Str->Sx}{d:PyData}(h:FD T d)(h':FD T' d):T=T':=by
 obtain⟨ss,srt,hm,rfl⟩:=h
 obtain⟨ss',srt',hm',e⟩:=h'
 have e':ss.map (dF T)=ss'.map (dF T'):=by injection e
 obtain⟨rfl,hx⟩:=xD e'
 funext x
 by_cases h:x∈ss
 ·exact hx x h
 ·have h1:T x=fi:=Classical.byContradiction fun z=>h ((hm x).mpr z)
  have h2:T' x=fi:=Classical.byContradiction fun z=>h ((hm' x).mpr z)
  rw [h1,h2]
theorem FD.zero:FD T0 (.tuple []):=⟨[],⟨Hy.nil,HB⟩,fun x=>⟨fun h=>(nomatch h),fun h=>absurd rfl h⟩,rfl⟩
def CD (c:Cp)(d:PyData):Prop:=∃fd,FD c.2 fd/\d=.tuple [.int (c.1:Nat),fd]
theorem CD.iff {c c':Cp}{d d':PyData}(h:CD c d)(h':CD c' d'):d=d'↔c=c':=by
 obtain⟨fd,hf,rfl⟩:=h
 obtain⟨fd',hf',rfl⟩:=h'
 constructor
 ·intro e
  have e1:[PyData.int (c.1:Nat),fd]=[PyData.int (c'.1:Nat),fd']:=by injection e
  injection e1 with e2 e3
  injection e3 with e3 _
  have e4:(c.1:Int)=(c'.1:Int):=by injection e2
  subst e3
  exact Prod.ext (by omega) (hf.inj hf')
 ·rintro rfl
  rw [hf.unique hf']
noncomputable instance E4:DecidableEq Cp:=fun a b=>Classical.propDecidable (a=b)
theorem CD.mem {c:Cp}{d:PyData}(h:CD c d):∀{ds:List PyData} {cs:List Cp},Paired (fun d c=>CD c d) ds cs->(d∈ds↔c∈cs)/\ds.idxOf d=cs.idxOf c
 | _,_,.nil=>⟨by simp,rfl⟩
 | _,_,.cons (a:=d') (b:=c') (l₁:=ds) (l₂:=cs) h' t=>by
  obtain⟨i1,i2⟩:=CD.mem h t
  have e:=h'.iff h
  constructor
  ·rw [Gu,Gu,i1]
   constructor
   ·rintro (z | z)
    ·exact .inl (e.mp z.symm).symm
    ·exact .inr z
   ·rintro (z | z)
    ·exact .inl (e.mpr z.symm).symm
    ·exact .inr z
  ·rw [Ig,Ig]
   by_cases z:d' = d
   ·have z':=e.mp z
    rw [z,z',beq_self_eq_true,beq_self_eq_true]
    rfl
   ·have z':¬c' = c:=fun w=>z (e.mpr w)
    rw [beq_false_of_ne z,beq_false_of_ne z',i2]
theorem qS {T:Str->Sx}:∀ss:List Str,fU (gO T ss)=true
 | []=>rfl
 | x::ss=>by
  have ih:d5 (ss.map (dF T))=true:=qS ss
  show ((true&&(fU (dS (T x))&&true))&&d5 (ss.map (dF T)))=true
  rw [ih]
  obtain⟨a,b⟩:=T x
  cases a <;> cases b <;> rfl
theorem CD.key {c:Cp}{d:PyData}(h:CD c d)(hl:vF c.2):lr d:=by
 obtain⟨fd,⟨ss,srt,hm,rfl⟩,rfl⟩:=h
 refine⟨?_,?_,?_,_,rfl⟩
 ·show (true&&(fU (gO c.2 ss)&&true))=true
  rw [qS];rfl
 ·show (true&&((gO c.2 ss).canLay0&&true))=true
  rw [Aa hl ss fun x hx=>(hm x).mp hx];rfl
 ·show max 0 (max (gO c.2 ss).depth 0)+1<=7
  have:=Ei c.2 ss
  omega
section
variable (tops:Nat->Prop)(most:Nat)
open Classical in
noncomputable def bJ (cs:List Cp) (c:Cp):Cp:=if tops c.1 then (c.1,T0) else if c∈cs\/cs.length<most then c else (c.1,T0)
noncomputable def fW (st:List Cp×List Nat) (l:Cp):List Cp×List Nat:=(LS.putIn st.1 (bJ tops most st.1 l),st.2++[(LS.putIn st.1 (bJ tops most st.1 l)).idxOf (bJ tops most st.1 l)])
noncomputable def cm (cs:List Cp) (ls:List Cp):List Cp×List Nat:=ls.foldl (fW tops most) (cs,[])
theorem wj {cs ls:List Cp}{i:Nat}{l:Cp}(h:ls[i]?=some l):cm tops most cs (ls.take (i+1))=fW tops most (cm tops most cs (ls.take i)) l:=by
 unfold cm
 rw [G1,h,Ic]
 rfl
def mG (e:End):List Nat->End
 | [a]=>.go a
 | ns=>mB e ns
noncomputable def hG (ps:List Piece):Nat->List Cp->List Piece->List Cp×List Piece
 | 0,cs,outs=>(cs,outs)
 | f+1,cs,outs=>match cs[outs.length]? with
  | none=>(cs,outs)
  | some c=>match ps[c.1]? with
   | none=>(cs,outs)
   | some pc=>hG ps f (cm tops most cs (dP (eF c.2 pc.1) pc.2)).1 (outs++[(pc.1,mG pc.2 (cm tops most cs (dP (eF c.2 pc.1) pc.2)).2)])
end
theorem tR {T:Str->Sx}:∀ss:List Str,cC (gO T ss)=true
 | []=>rfl
 | x::ss=>by
  have ih:cJ (ss.map (dF T))=true:=tR ss
  show ((true&&(cC (dS (T x))&&true))&&cJ (ss.map (dF T)))=true
  rw [ih]
  obtain⟨a,b⟩:=T x
  cases a <;> cases b <;> rfl
theorem CD.lV {c:Cp}{d:PyData}(h:CD c d):cC d=true:=by
 obtain⟨fd,⟨ss,srt,hm,rfl⟩,rfl⟩:=h
 show (true&&(cC (gO c.2 ss)&&true))=true
 rw [tR];rfl
def sC:Sp:=fun vs H Q _=>∃(ea l:Addr) (e:End) (ns:List Nat),vs=[.ref ea,.ref l]/\H ea=some (.tup (fg e))/\H l=some (.lst (vN ns))/\(ns.length=1\/ns.length=(aN e).length)/\ns.length<=2 /\
 ∀t H',H' t=some (.tup (fg (mG e ns)))->ar H H'->Q (.ref t) H'
abbrev oY (ms:List (PyData×Addr))(cs:List Cp):Prop:=Paired (fun d c=>CD c d) (ms.map (·.1)) cs
def nV (P:Program)(w:World):Sp:=fun vs H Q _=>∃(la tp d:Addr) (most k:Nat) (T:Str->Sx) (dl:PyData) (hs:List Nat) (fv:V) (ms:List (PyData×Addr)) (cs:List Cp) (tops:Nat->Prop),vs=[.ref la,.ref tp,.ref d,.int (most:Nat)] /\
 H la=some (.tup [.int (k:Nat),fv])/\aX H (.ref la) dl/\CD (k,T) dl/\vF T/\H tp=some (.tup (vN hs))/\(∀j,j∈hs↔tops j)/\H d=some (fV P w d (dA 0 ms))/\Co H (dA 0 ms)/\oY ms cs /\
 ∀(a:Addr) (d':PyData) (H':Hp),aX H' (.ref a) d'->CD (bJ tops most cs (k,T)) d'->ar H H'->Q (.ref a) H'
structure dC (xs:List Str) (T:Str->Sx):Prop where
 sup:∀x,T x≠fi->x∈xs
 le:∀x,u0 (T x).1 (T x).2
theorem dC.zero {xs:List Str}:dC xs T0:=⟨fun x h=>absurd rfl h,fun x=>True.intro⟩
theorem dC.set {xs:List Str}{T:Str->Sx}(h:dC xs T){x:Str}{s:Sx}(hx:x∈xs)(hs:u0 s.1 s.2):dC xs (gC T x s):=by
 refine⟨fun y hy=>?_,fun y=>?_⟩
 ·unfold gC at hy
  by_cases e:y=x
  ·rw [e];exact hx
  ·rw [if_neg e] at hy;exact h.sup y hy
 ·unfold gC
  by_cases e:y=x
  ·rw [if_pos e];exact hs
  ·rw [if_neg e];exact h.le y
theorem De {w:Str}{lo hi:Option Int}{n:Int}{side:Bool}{s:Sx}(le:u0 lo hi)(h:dM w lo hi n side=some s):u0 s.1 s.2:=by
 unfold dM at h
 split at h
 ·unfold ji at h
  split at h
  ·unfold gc at h
   cases lo with
   | none=>cases h;exact True.intro
   | some l =>
    dsimp only at h
    split at h
    ·cases h
    ·cases h;show l<=jE hi n;omega
  ·unfold gX at h
   cases hi with
   | none=>cases h;exact True.intro
   | some l =>
    dsimp only at h
    split at h
    ·cases h
    ·cases h;show ix lo n<=l;omega
 ·unfold oR at h
  split at h
  ·unfold nv at h
   split at h
   ·cases h;exact Int.le_refl n
   ·cases h
  ·unfold iy at h
   split at h
   ·next h1 =>
    split at h
    ·cases h
    ·next h2 =>
     cases h
     subst h1
     cases hi with
     | none=>exact True.intro
     | some b =>
      have:n<=b:=le
      have:¬b=n:=fun z=>h2 (by rw [z])
      show n+1<=b
      omega
   ·next h1 =>
    split at h
    ·next h2 =>
     cases h
     subst h2
     cases lo with
     | none=>exact True.intro
     | some a =>
      have:a<=n:=le
      have:¬a=n:=fun z=>h1 (by rw [z])
      show a<=n-1
      omega
    ·cases h;exact le
theorem dC.Gb {xs:List Str}{T:Str->Sx}(h:dC xs T){d:cH}(hd:eW xs d):dC xs (Bt T d):=by
 refine h.set hd.name ?_
 cases d with
 | put x n=>exact Int.le_refl n
 | copy x y=>exact h.le y
 | add x n =>
  have:=h.le x
  show u0 (Cm (T x).1 n) (Cm (T x).2 n)
  cases e1:(T x).1 with
  | none=>exact True.intro
  | some a=>cases e2:(T x).2 with
   | none=>exact True.intro
   | some b =>
    rw [e1,e2] at this
    have:a<=b:=this
    show a+n<=b+n
    omega
 | read x=>exact True.intro
 | tell x=>exact h.le x
theorem dC.yE {xs:List Str}:∀{ds:List cH} {T:Str->Sx},dC xs T->(∀d∈ds,eW xs d)->dC xs (eF T ds)
 | [],_,h,_=>h
 | d::ds,T,h,hd=>dC.yE (ds:=ds) (h.Gb (hd d (GB ..))) fun e he=>hd e (GC _ he)
theorem xE {xs:List Str}{c:Nat}{T:Str->Sx}{e:End}(h:dC xs T)(he:iO xs c e):∀p∈dP T e,p.1<c/\dC xs p.2:=fun p hp=>by
 unfold dP at hp
 obtain⟨⟨k,o⟩,ho,hm⟩:=IK.mp hp
 have hz:=Im ho
 cases e with
 | stop=>cases hz.1
 | go q =>
  rw [Gp.mp hz.2] at hm
  cases hm
  exact⟨by rw [Gp.mp hz.1];exact he,h⟩
 | cE b x n q r =>
  have hk:k<c:=by
   rcases Gu.mp hz.1 with z | z
   ·rw [z];exact he.2.2.1
   ·rw [Gp.mp z];exact he.2.2.2
  have key:∀side,o=(ij T b x n side).map (gC T x)->p.1<c/\dC xs p.2:=fun side eo=>by
   dsimp only at hm
   rw [eo] at hm
   cases z:ij T b x n side with
   | none=>rw [z] at hm;cases hm
   | some s =>
    rw [z] at hm
    cases hm
    exact⟨hk,h.set he.1 (De (h.le x) z)⟩
  rcases Gu.mp hz.2 with z | z
  ·exact key true z
  ·exact key false (Gp.mp z)
theorem vK {xs:List Str}{T:Str->Sx}{e:End}(h:dC xs T):((dP T e).length=1\/(dP T e).length=(aN e).length)/\(dP T e).length<=2:=by
 cases e with
 | stop=>exact⟨.inr rfl,GK _⟩
 | go q=>exact⟨.inl rfl,by show 1<=2;decide⟩
 | cE b x n q r =>
  have e:dP T (.cE b x n q r)=((ij T b x n true).map fun s=>(q,gC T x s)).toList++((ij T b x n false).map fun s=>(r,gC T x s)).toList:=by
   unfold dP
   show ([(q,(ij T b x n true).map (gC T x)),(r,(ij T b x n false).map (gC T x))].filterMap fun p=>p.2.map fun U=>(p.1,U))=_
   cases ij T b x n true <;> cases ij T b x n false <;> rfl
  rw [e]
  cases e1:ij T b x n true with
  | none=>cases e2:ij T b x n false with
   | none=>exact (AR (h.le x) e1 e2).elim
   | some s=>exact⟨.inl rfl,by show 1<=2;decide⟩
  | some s=>cases e2:ij T b x n false with
   | none=>exact⟨.inl rfl,by show 1<=2;decide⟩
   | some s=>exact⟨.inr rfl,Gi 2⟩
theorem dC.lay {xs:List Str}{T:Str->Sx}(h:dC xs T)(hx:∀x∈xs,fZ x):vF T:=fun x hx'=>BB (hx x (h.sup x hx'))
theorem dC.bK {xs:List Str}{T:Str->Sx}(h:dC xs T):yB T xs.length:=fun ss hs nd=>sub_len nd fun x hx=>h.sup x (hs x hx)
open Classical in
noncomputable def nW (c:Cp):Bool:=decide (c.2≠T0)
theorem tS {α : Type}(p:α->Bool):∀l:List α,l.length=(l.filter p).length+(l.filter fun x=>!p x).length
 | []=>rfl
 | x::l=>by
  have ih:=tS p l
  cases h:p x with
  | true=>rw [IW h,IH (by simp [h]),GZ,GZ];omega
  | false=>rw [IH (by simp [h]),IW (by simp [h]),GZ,GZ];omega
structure kF (n most:Nat) (cs:List Cp):Prop where
 nd:cs.Nodup
 bK:(cs.filter nW).length<=most
theorem kF.len {n most:Nat}{cs:List Cp}(h:kF n most cs)(hl:∀c∈cs,c.1<n):cs.length<=most+n:=by
 have e:=tS nW cs
 have h2:(cs.filter fun c=>!nW c).length<=n:=by
  have nd2:((cs.filter fun c=>!nW c).map (·.1)).Nodup:=by
   rw [List.Nodup,List.pairwise_map]
   refine (h.nd.filter _).imp_of_mem fun {a b} ha hb hne z=>hne ?_
   have ha2:=(HD.mp ha).2
   have hb2:=(HD.mp hb).2
   simp [nW] at ha2 hb2
   exact Prod.ext z (by rw [ha2,hb2])
  have:=dz (n:=n) nd2 fun x hx=>by
   obtain⟨c,hc,rfl⟩:=GH.mp hx
   exact hl c (HD.mp hc).1
  rw [Gg] at this
  exact this
 have:=h.bK
 omega
theorem kF.put {n most:Nat}{tops:Nat->Prop}{cs:List Cp}{l:Cp}(h:kF n most cs):kF n most (LS.putIn cs (bJ tops most cs l)):=by
 unfold LS.putIn
 by_cases hm:bJ tops most cs l∈cs
 ·rw [if_pos hm];exact h
 ·rw [if_neg hm]
  refine⟨?_,?_⟩
  ·rw [Hv]
   refine⟨h.nd,by simp,fun x hx y hy z=>?_⟩
   rw [Gp.mp hy] at z
   exact hm (z ▸ hx)
  ·rw [Iz,Gr]
   by_cases hz:(bJ tops most cs l).2=T0
   ·rw [IH (by simp [nW,hz])]
    simpa using h.bK
   ·have hlt:cs.length<most:=by
     unfold bJ at hz hm
     split at hz
     ·exact absurd rfl hz
     ·split at hz
      ·next h1 h2 =>
       rw [if_neg h1,if_pos h2] at hm
       exact h2.resolve_left hm
      ·exact absurd rfl hz
    have h3:(cs.filter nW).length<=cs.length:=HL _ _
    have h4:(List.filter nW [bJ tops most cs l]).length<=1:=HL _ _
    omega
open Classical in
noncomputable def startT (ps:List Piece):Str->Sx:=fun x=>if x∈bU ps then (some 0,some 0) else fi
open Classical in
noncomputable def kG (ps:List Piece):Cp:=if dq ps 0 then (0,T0) else (0,startT ps)
noncomputable def i9 (ps:List Piece) (most:Nat):List Cp×List Piece:=hG (dq ps) most ps (most+ps.length) [kG ps] []
theorem BD {ps:List Piece}{ss:List Str}(hp:ss.Perm (LS.dZ (bU ps)))(hs:sortedS ss=true):FD (startT ps) (nR ss):=by
 have hm:∀x,x∈ss↔x∈bU ps:=fun x=>hp.mem_iff.trans LS.tF
 refine⟨ss,⟨tK hs,hp.nodup_iff.mpr (LS.vo _)⟩,fun x=>?_,?_⟩
 ·rw [hm]
  unfold startT
  by_cases h:x∈bU ps
  ·rw [if_pos h];exact⟨fun _ z=>(by cases z),fun _=>h⟩
  ·rw [if_neg h];exact⟨fun z=>absurd z h,fun z=>absurd rfl z⟩
 ·unfold nR gO
  congr 1
  refine HK fun x hx=>?_
  unfold dF startT
  rw [if_pos ((hm x).mp hx)]
  rfl
theorem pR {ps:List Piece}{xs:List Str}{m:Nat}(ok:cL xs m ps):dC xs (startT ps):=by
 refine⟨fun x hx=>?_,fun x=>?_⟩
 ·unfold startT at hx
  by_cases h:x∈bU ps
  ·exact tH ok x h
  ·rw [if_neg h] at hx;exact absurd rfl hx
 ·unfold startT
  split
  ·exact Int.le_refl 0
  ·exact True.intro
theorem qT {tops:Nat->Prop}{most:Nat}{ps:List Piece}{f:Nat}{cs:List Cp}{outs:List Piece}{c:Cp}{pc:Piece}(h:cs[outs.length]?=some c)(hp:ps[c.1]?=some pc) :
  hG tops most ps (f+1) cs outs=hG tops most ps f (cm tops most cs (dP (eF c.2 pc.1) pc.2)).1 (outs++[(pc.1,mG pc.2 (cm tops most cs (dP (eF c.2 pc.1) pc.2)).2)]):=by
 conv=>lhs;unfold hG
 rw [h]
 dsimp only
 rw [hp]
theorem tT {tops:Nat->Prop}{most:Nat}{ps:List Piece}{cs:List Cp}{outs:List Piece}(h:cs[outs.length]?=none):∀f,hG tops most ps f cs outs=(cs,outs)
 | 0=>rfl
 | f+1=>by
  conv=>lhs;unfold hG
  rw [h]
def nX (P:Program)(w:World)(C:Addr):Sp:=fun vs H Q _=>∃(plv:V) (ps:List Piece) (xs:List Str) (most:Nat),vs=[plv,.int (most:Nat)]/\aX H plv (cN ps)/\cL xs 6 ps/\(∀x∈xs,fZ x)/\xs.length<=10/\0<ps.length/\ps.length<=60/\1<=most/\most<=300 /\
 ∀(v:V) (ds:List PyData) (H':Hp),Paired (fun d c=>CD c d) ds (i9 ps most).1->aX H' v (.tuple [.tuple ((i9 ps most).2.map df),.tuple ds])->ar H H'->Q v H'
theorem Df {X:Cx}{K:Gh}{e:Expr}{f:Str}{pos:Pos}{ta:TE}(hK:X.K=K)(he:PE X e ta)(hb:attributeBase e f X.env (eval e X.env)=eval e X.env):PE X (.Attribute e f pos) (DB K ta f):=by
 subst hK
 exact bH he hb
theorem jx {tops:Nat->Prop}{most n:Nat}{xs:List Str}:∀{ls cs:List Cp} {ns:List Nat},kF n most cs->(∀c∈cs,c.1<n/\dC xs c.2)->(∀c∈ls,c.1<n/\dC xs c.2)->kF n most (ls.foldl (fW tops most) (cs,ns)).1/\(∀c∈(ls.foldl (fW tops most) (cs,ns)).1,c.1<n/\dC xs c.2)/\(ls.foldl (fW tops most) (cs,ns)).2.length=ns.length+ls.length/\∃more,(ls.foldl (fW tops most) (cs,ns)).1=cs++more
 | [],cs,ns,h,hc,_=>⟨h,hc,rfl,[],by simp⟩
 | l::ls,cs,ns,h,hc,hl=>by
  have hl0:=hl l (GB ..)
  have hcp:(bJ tops most cs l).1<n/\dC xs (bJ tops most cs l).2:=by
   unfold bJ
   split
   ·exact⟨hl0.1,dC.zero⟩
   ·split
    ·exact hl0
    ·exact⟨hl0.1,dC.zero⟩
  have hc':∀c∈LS.putIn cs (bJ tops most cs l),c.1<n/\dC xs c.2:=fun c hc'=>by
   rcases LS.gN.mp hc' with z | z
   ·exact hc c z
   ·rw [z];exact hcp
  obtain⟨i1,i2,i3,more,i4⟩:=jx (tops:=tops) (ls:=ls) (cs:=LS.putIn cs (bJ tops most cs l)) (ns:=ns++[(LS.putIn cs (bJ tops most cs l)).idxOf (bJ tops most cs l)]) (h.put (l:=l)) hc' fun c hc=>hl c (GC _ hc)
  refine⟨i1,i2,?_,?_⟩
  ·refine Eq.trans (show (ls.foldl (fW tops most) (fW tops most (cs,ns) l)).2.length=(ns++[(LS.putIn cs (bJ tops most cs l)).idxOf (bJ tops most cs l)]).length+ls.length from i3) ?_
   simp only [Gr,GZ,HV]
   omega
  ·have i4':(ls.foldl (fW tops most) (fW tops most (cs,ns) l)).1=LS.putIn cs (bJ tops most cs l)++more:=i4
   show ∃more,(ls.foldl (fW tops most) (fW tops most (cs,ns) l)).1=cs++more
   rw [i4']
   unfold LS.putIn
   split
   ·exact⟨more,rfl⟩
   ·exact⟨bJ tops most cs l::more,by simp⟩
theorem iS.mv {P:Program}{w:World}{C r m d:Addr}{H H':Hp}{ms:List (PyData×Addr)}(A:iS P w C H r m d ms)(nls:∀p∈ms,cC p.1=true)(k:∀c o,H c=some o->(c=r\/c=m\/c=d)->H' c=some o)(kt:∀p zs,H p=some (.tup zs)->H' p=some (.tup zs)):iS P w C H' r m d ms:=by
 obtain⟨⟨dx,h1⟩,h2,h3,h4⟩:=A
 exact⟨⟨dx,k _ _ h1 (.inl rfl)⟩,k _ _ h2 (.inr (.inl rfl)),k _ _ h3 (.inr (.inr rfl)),fun p hp=>⟨(h4 p hp).1,(h4 p hp).2.bp kt (nls p hp)⟩⟩
theorem oY.lV {ms:List (PyData×Addr)}{cs:List Cp}(h:oY ms cs):∀p∈ms,cC p.1=true:=by
 have go:∀{ds:List PyData} {cs:List Cp},Paired (fun d c=>CD c d) ds cs->∀d∈ds,cC d=true:=by
  intro ds cs h
  induction h with
  | nil=>intro d hd;cases hd
  | cons r _ ih =>
   intro d hd
   rcases Gu.mp hd with rfl | hd
   ·exact r.lV
   ·exact ih d hd
 exact fun p hp=>go h p.1 (GH.mpr ⟨p,hp,rfl⟩)
theorem oY.put {ms:List (PyData×Addr)}{cs:List Cp}{c:Cp}{d:PyData}{a:Addr}(h:oY ms cs)(cd:CD c d):oY (mF ms d a) (LS.putIn cs c):=by
 obtain⟨hm,_⟩:=cd.mem h
 unfold mF LS.putIn
 by_cases z:c∈cs
 ·rw [if_pos z,if_pos (hm.mpr z)];exact h
 ·rw [if_neg z,if_neg (fun w=>z (hm.mp w))]
  show Paired _ ((ms++[(d,a)]).map (·.1)) _
  rw [Gz]
  exact g9 h (.cons cd .nil)
theorem xF {H:Hp}:∀{ms:List (PyData×Addr)},(∀p∈ms,aX H (.ref p.2) p.1)->br H (ms.map fun p=>V.ref p.2) (ms.map (·.1))
 | [],_=>.nil
 | p::ms,h=>.cons (h p (GB ..)) (xF fun q hq=>h q (GC _ hq))
section
variable {prog:Program}{w:World}{A:Around}{E:Value->Shared->Prop}{s:Shared}
end
section
variable {X:Cx}
end
section
variable {tops:Nat->Prop}{most:Nat}
def Goes (tops:Nat->Prop)(most:Nat)(cs:List Cp)(ls:List Cp)(ns:List Nat):Prop:=Paired (fun l k=>∃c':Cp,cs[k]?=some c'/\c'.1=l.1/\((¬tops l.1/\c'.2=l.2)\/(c'.2=T0/\(tops l.1\/most<=cs.length)))) ls ns
theorem Goes.more {cs ls more:List Cp}{ns:List Nat}(h:Goes tops most cs ls ns):Goes tops most (cs++more) ls ns:=by
 unfold Goes at h ⊢
 induction h with
 | nil=>exact .nil
 | cons r _ ih =>
  obtain⟨c',h1,h2,h3⟩:=r
  refine .cons ⟨c',?_,h2,?_⟩ ih
  ·rw [Hf (GQ.mp h1).1];exact h1
  ·rcases h3 with h3 | ⟨h3,h4 | h4⟩
   ·exact .inl h3
   ·exact .inr ⟨h3,.inl h4⟩
   ·exact .inr ⟨h3,.inr (by rw [Gr];omega)⟩
theorem BE {cs:List Cp}{c:Cp}:(LS.putIn cs c)[(LS.putIn cs c).idxOf c]?=some c:=by
 have hm:c∈LS.putIn cs c:=LS.gN.mpr (.inr rfl)
 have hl:=HC hm
 rw [Hw hl,IE hl]
theorem oZ:∀{ls cs:List Cp} {ns:List Nat},∃more ms,(ls.foldl (fW tops most) (cs,ns)).1=cs++more/\(ls.foldl (fW tops most) (cs,ns)).2=ns++ms/\Goes tops most (ls.foldl (fW tops most) (cs,ns)).1 ls ms
 | [],cs,ns=>⟨[],[],by simp,by simp,.nil⟩
 | l::ls,cs,ns=>by
  obtain⟨more,ms,e1,e2,g⟩:=oZ (ls:=ls) (cs:=LS.putIn cs (bJ tops most cs l)) (ns:=ns++[(LS.putIn cs (bJ tops most cs l)).idxOf (bJ tops most cs l)])
  have e0:(l::ls).foldl (fW tops most) (cs,ns)=ls.foldl (fW tops most) (LS.putIn cs (bJ tops most cs l),ns++[(LS.putIn cs (bJ tops most cs l)).idxOf (bJ tops most cs l)]):=rfl
  rw [e0]
  have hp:∃m0,LS.putIn cs (bJ tops most cs l)=cs++m0:=by
   unfold LS.putIn
   split
   ·exact⟨[],by simp⟩
   ·exact⟨_,rfl⟩
  obtain⟨m0,em⟩:=hp
  have hat:=BE (cs:=cs) (c:=bJ tops most cs l)
  refine⟨m0++more,(LS.putIn cs (bJ tops most cs l)).idxOf (bJ tops most cs l)::ms,by rw [e1,em,Ha],by rw [e2,Ha];rfl,.cons ⟨bJ tops most cs l,?_,?_,?_⟩ g⟩
  ·rw [e1,Hf (GQ.mp hat).1];exact hat
  ·unfold bJ
   split
   ·rfl
   ·split <;> rfl
  ·have hl:cs.length<=(ls.foldl (fW tops most) (LS.putIn cs (bJ tops most cs l),ns++[(LS.putIn cs (bJ tops most cs l)).idxOf (bJ tops most cs l)])).1.length:=by rw [e1,em,Gr,Gr];omega
   generalize (ls.foldl (fW tops most) (LS.putIn cs (bJ tops most cs l),ns++[(LS.putIn cs (bJ tops most cs l)).idxOf (bJ tops most cs l)])).1=cz at hl
   unfold bJ
   by_cases h1:tops l.1
   ·rw [if_pos h1];exact .inr ⟨rfl,.inl h1⟩
   ·rw [if_neg h1]
    by_cases h2:l∈cs\/cs.length<most
    ·rw [if_pos h2];exact .inl ⟨h1,rfl⟩
    ·rw [if_neg h2];exact .inr ⟨rfl,.inr (by have:¬cs.length<most:=fun z=>h2 (.inr z);omega)⟩
def FK (tops:Nat->Prop)(most:Nat)(ps:List Piece)(cs:List Cp)(outs:List Piece):Prop:=∀(j:Nat) (p:Piece),outs[j]?=some p->∃(c:Cp) (pc:Piece) (ns:List Nat),cs[j]?=some c/\ps[c.1]?=some pc/\p=(pc.1,mG pc.2 ns)/\Goes tops most cs (dP (eF c.2 pc.1) pc.2) ns
structure sD (tops:Nat->Prop) (most:Nat) (xs:List Str) (ps:List Piece) (cs:List Cp) (outs:List Piece):Prop where
 tU:kF ps.length most cs
 ok:∀c∈cs,c.1<ps.length/\dC xs c.2
 le:outs.length<=cs.length
 rel:FK tops most ps cs outs
theorem sD.step {xs:List Str}{ps:List Piece}{cs:List Cp}{outs:List Piece}{m:Nat}(h:sD tops most xs ps cs outs)(pok:cL xs m ps){c:Cp}{pc:Piece}(hc:cs[outs.length]?=some c)(hp:ps[c.1]?=some pc) :
  sD tops most xs ps (cm tops most cs (dP (eF c.2 pc.1) pc.2)).1 (outs++[(pc.1,mG pc.2 (cm tops most cs (dP (eF c.2 pc.1) pc.2)).2)])/\∃more,(cm tops most cs (dP (eF c.2 pc.1) pc.2)).1=cs++more:=by
 have hcm:=GJ hc
 have dok:=pok.iP _ (GJ hp)
 have eok:=pok.ends _ (GJ hp)
 have bok:=(h.ok c hcm).2.yE dok.2
 obtain⟨k1,k2,_,_⟩:=jx (tops:=tops) (ls:=dP (eF c.2 pc.1) pc.2) (ns:=[]) h.tU h.ok (xE bok eok)
 obtain⟨more,ms,e1,e2,g⟩:=oZ (tops:=tops) (most:=most) (ls:=dP (eF c.2 pc.1) pc.2) (cs:=cs) (ns:=[])
 have hol:outs.length<cs.length:=(GQ.mp hc).1
 refine⟨⟨k1,k2,?_,?_⟩,more,e1⟩
 ·unfold cm
  rw [e1,Gr,Gr]
  show _+1<=_
  omega
 ·intro j p hj
  unfold cm
  by_cases hjl:j<outs.length
  ·rw [Hf hjl] at hj
   obtain⟨c',pc',ns',h1,h2,h3,h4⟩:=h.rel j p hj
   refine⟨c',pc',ns',?_,h2,h3,?_⟩
   ·rw [e1,Hf (by omega)];exact h1
   ·rw [e1];exact h4.more
  ·have hje:j=outs.length:=by
    have:=(GQ.mp hj).1
    rw [Gr] at this
    have:j<outs.length+1:=this
    omega
   subst hje
   rw [HR (Gi _),Nat.sub_self] at hj
   cases hj
   refine⟨c,pc,ms,?_,hp,?_,g⟩
   ·rw [e1,Hf hol];exact hc
   ·unfold cm
    rw [e2]
    rfl
theorem tV {xs:List Str}{ps:List Piece}{m:Nat}(pok:cL xs m ps):∀(fu:Nat) {cs:List Cp} {outs:List Piece},sD tops most xs ps cs outs->fu+outs.length=most+ps.length ->
  sD tops most xs ps (hG tops most ps fu cs outs).1 (hG tops most ps fu cs outs).2/\(hG tops most ps fu cs outs).2.length=(hG tops most ps fu cs outs).1.length/\∃more,(hG tops most ps fu cs outs).1=cs++more
 | 0,cs,outs,h,hf=>by
  have:=h.tU.len fun c hc=>(h.ok c hc).1
  have:=h.le
  exact⟨h,by show outs.length=cs.length;omega,[],by show cs=_;simp⟩
 | fu+1,cs,outs,h,hf=>by
  cases hc:cs[outs.length]? with
  | none =>
   rw [tT hc]
   have:cs.length<=outs.length:=IX.mp hc
   have:=h.le
   exact⟨h,by show outs.length=cs.length;omega,[],by simp⟩
  | some c =>
   have hcl:=(h.ok c (GJ hc)).1
   have hps:ps[c.1]?=some ps[c.1]:=by simp [hcl]
   rw [qT hc hps]
   obtain⟨h',more,e⟩:=h.step pok hc hps
   obtain⟨i1,i2,more',i3⟩:=tV pok fu h' (by rw [Gr];show fu+(_+1)=_;omega)
   exact⟨i1,i2,more++more',by rw [i3,e,Ha]⟩
end
theorem vL {xs:List Str}{ps:List Piece}{m most:Nat}(pok:cL xs m ps)(hn0:0<ps.length)(hm:1<=most) :
  sD (dq ps) most xs ps (i9 ps most).1 (i9 ps most).2/\(i9 ps most).2.length=(i9 ps most).1.length/\∃more,(i9 ps most).1=[kG ps]++more:=by
 refine tV pok _ ⟨⟨by simp,Gy (HL _ _) hm⟩,fun c hc=>?_,GK _,fun j p hj=>(by cases hj)⟩ rfl
 rw [Gp.mp hc]
 unfold kG
 split
 ·exact⟨hn0,dC.zero⟩
 ·exact⟨hn0,pR pok⟩
theorem Dg {xs:List Str}{n n':Nat}{e:End}{ns:List Nat}(h:iO xs n e)(hl:ns.length=1\/ns.length=(aN e).length)(hb:∀k∈ns,k<n'):iO xs n' (mG e ns):=by
 match ns,hl,hb with
 | [a],_,hb=>exact hb a (Gp.mpr rfl)
 | [],hl,_ =>
  cases e with
  | stop=>exact True.intro
  | go p=>exact absurd (hl.resolve_left (by decide)) (by show ¬0=1;decide)
  | cE b x n p q=>exact absurd (hl.resolve_left (by decide)) (by show ¬0=2;decide)
 | [a,c],hl,hb =>
  have hl:=hl.resolve_left (by show ¬2=1;decide)
  cases e with
  | stop=>exact absurd hl (by show ¬2=0;decide)
  | go p=>exact absurd hl (by show ¬2=1;decide)
  | cE b x n p q=>exact⟨h.1,h.2.1,hb a (by simp),hb c (by simp)⟩
 | _::_::_::_,hl,_ =>
  exfalso
  have h3:(aN e).length<=2:=by cases e <;> (show _<=2) <;> simp [aN]
  simp only [GZ] at hl
  omega
theorem Goes.lt {tops:Nat->Prop}{most:Nat}{cs ls:List Cp}{ns:List Nat}(h:Goes tops most cs ls ns):∀k∈ns,k<cs.length:=by
 unfold Goes at h
 induction h with
 | nil=>intro k hk;cases hk
 | cons r _ ih =>
  intro k hk
  rcases Gu.mp hk with rfl | hk
  ·obtain⟨c',h1,_⟩:=r
   exact (GQ.mp h1).1
  ·exact ih k hk
theorem Af {xs:List Str}{ps:List Piece}{m most:Nat}(pok:cL xs m ps)(hn0:0<ps.length)(hm:1<=most):cL xs m (i9 ps most).2:=by
 obtain⟨I,hl,_⟩:=vL pok hn0 hm
 have key:∀p∈(i9 ps most).2,(p.1.length<=m/\∀d∈p.1,eW xs d)/\iO xs (i9 ps most).2.length p.2:=fun p hp=>by
  obtain⟨j,hj⟩:=II hp
  obtain⟨c,pc,ns,h1,h2,rfl,h4⟩:=I.rel j p hj
  have hpm:=GJ h2
  have bok:=(I.ok c (GJ h1)).2.yE (pok.iP _ hpm).2
  refine⟨(show pc.1.length<=m/\∀d∈pc.1,eW xs d from pok.iP pc hpm),Dg (pok.ends _ hpm) ?_ (by rw [hl];exact h4.lt)⟩
  rw [<-Paired.length h4]
  exact (vK (e:=pc.2) bok).1
 exact⟨fun p hp=>(key p hp).1,fun p hp=>(key p hp).2⟩
theorem Ag {xs:List Str}{ps:List Piece}{m most:Nat}(pok:cL xs m ps)(hn0:0<ps.length)(hm:1<=most):0<(i9 ps most).2.length/\(i9 ps most).2.length<=most+ps.length:=by
 obtain⟨I,hl,more,e⟩:=vL pok hn0 hm
 have h1:=I.tU.len fun c hc=>(I.ok c hc).1
 rw [hl]
 refine⟨?_,h1⟩
 rw [e]
 exact Nat.succ_pos _
theorem cL.up {xs:List Str}{m k:Nat}{ps:List Piece}(h:cL xs m ps)(hk:m<=k):cL xs k ps:=⟨fun p hp=>⟨Gy (h.iP p hp).1 hk,(h.iP p hp).2⟩,h.ends⟩
section
variable {X:Cx}
end
def xG (e:End)(w:Str->Int):Option Nat:=match e with
 | .stop=>none
 | .go p=>some p
 | .cE b x n p q=>some (if fD b (w x) n=true then p else q)
theorem jy (S:RS)(e:End):jh S e=match xG e S.w with
  | none=>{ S with word := "stop" }
  | some p=>{ S with aP:=p,place:=0,bX:=S.bX++[p] }:=by
 cases e <;> rfl
theorem tW:∀ns:List Int,cJ (ns.map PyData.int)=true
 | []=>rfl
 | n::ns=>tW ns
theorem sE (S:RS):cC (ik S)=true:=by
 show (true&&(cJ (S.told.map PyData.int)&&true))=true
 rw [tW];rfl
theorem ja {X:Cx}{e1 e2 e3 e4 e5 e6 e7:Expr}{t1 t2 t3 t4 t5 t6 t7:TE}(h1:PE X e1 t1)(h2:PE X e2 t2)(h3:PE X e3 t3)(h4:PE X e4 t4)(h5:PE X e5 t5)(h6:PE X e6 t6)(h7:PE X e7 t7)
  (s1:starEach [e1,e2,e3,e4,e5,e6,e7] X.env=(false,eval e1 X.env)::starEach [e2,e3,e4,e5,e6,e7] X.env:=by rfl) (s2:starEach [e2,e3,e4,e5,e6,e7] X.env=(false,eval e2 X.env)::starEach [e3,e4,e5,e6,e7] X.env:=by rfl) (s3:starEach [e3,e4,e5,e6,e7] X.env=(false,eval e3 X.env)::starEach [e4,e5,e6,e7] X.env:=by rfl) (s4:starEach [e4,e5,e6,e7] X.env=(false,eval e4 X.env)::starEach [e5,e6,e7] X.env:=by rfl) (s5:starEach [e5,e6,e7] X.env=(false,eval e5 X.env)::starEach [e6,e7] X.env:=by rfl) (s6:starEach [e6,e7] X.env=(false,eval e6 X.env)::starEach [e7] X.env:=by rfl) (s7:starEach [e7] X.env=(false,eval e7 X.env)::starEach [] X.env:=by rfl) :
  PA X [e1,e2,e3,e4,e5,e6,e7] (kK t1 (kK t2 (kK t3 (kK t4 (kK t5 (kK t6 (kK t7 uJ))))))):=(aa h1 (aa h2 (aa h3 (aa h4 (aa h5 (aa h6 (aa h7 af s7) s6) s5) s4) s3) s2) s1)
section
variable (ps:List Piece)
def tX (p:Nat):Nat:=match ps[p]? with
 | some ([],.go q)=>q
 | _=>p
def iT (p:Nat):Prop:=∃q,ps[p]?=some ([],.go q)
def sq (p:Nat):Nat->Nat
 | 0=>p
 | i+1=>tX ps (sq p i)
end
section
variable {ps:List Piece}
theorem Dh {l:List Nat}{x:Nat}(h:x∈l):kA l<=x:=by
 unfold kA
 cases e:l.min? with
 | none=>rw [List.min?_eq_none_iff.mp e] at h;cases h
 | some m=>exact (IV.mp e).2 x h
theorem vM {p q:Nat}(h:ps[p]?=some ([],.go q)):tX ps p=q:=by unfold tX;rw [h]
theorem xH {p:Nat}{pc:Piece}(h:ps[p]?=some pc):iT ps p↔iR pc=true:=by
 constructor
 ·rintro⟨q,hq⟩
  rw [h] at hq
  cases hq
  rfl
 ·intro hi
  obtain⟨n,rfl⟩:=ow hi
  exact⟨n,h⟩
theorem jA (p i:Nat):∀j,sq ps p (i+j)=sq ps (sq ps p i) j
 | 0=>rfl
 | j+1=>by
  show tX ps (sq ps p (i+j))=tX ps (sq ps (sq ps p i) j)
  rw [jA p i j]
theorem xI {p:Nat}(hin:bO ps)(hp:p<ps.length):∀(f m:Nat),f+m=ps.length+1->(∀i<m,iT ps (sq ps p i))->((GN m).map (sq ps p)).Nodup->(∀i ≤ m,sq ps p i<ps.length) ->
  (∃k,k<=ps.length/\kB ps f (sq ps p m) ((GN m).map (sq ps p))=sq ps p k/\(∀i<k,iT ps (sq ps p i))/\¬iT ps (sq ps p k)) \/
  (∃k j,0<j/\kB ps f (sq ps p m) ((GN m).map (sq ps p))=sq ps p k/\sq ps p (k+j)=sq ps p k/\(∀i,iT ps (sq ps p i))/\∀i,sq ps p k<=sq ps p (k+i))
 | 0,m,hf,hid,nd,lt=>by
  exfalso
  have h1:=dz nd fun x hx=>by
   obtain⟨i,hi,rfl⟩:=GH.mp hx
   exact lt i (G3 (Ho.mp hi))
  rw [Gg,HY] at h1
  omega
 | f+1,m,hf,hid,nd,lt=>by
  have hlt:=lt m (Gi m)
  have hps:ps[sq ps p m]?=some ps[sq ps p m]:=by simp [hlt]
  generalize ps[sq ps p m]=pc at hps
  by_cases hi:iR pc=true
  ·obtain⟨n,rfl⟩:=ow hi
   have hidm:iT ps (sq ps p m):=⟨n,hps⟩
   have hnx:sq ps p (m+1)=n:=vM hps
   rw [nP hps]
   by_cases hm:sq ps p m∈(GN m).map (sq ps p)
   ·right
    rw [if_pos hm]
    obtain⟨j,hj,ej⟩:=GH.mp hm
    have hjm:j<m:=Ho.mp hj
    have hix:((GN m).map (sq ps p)).idxOf (sq ps p m)=j:=by
     have h1:((GN m).map (sq ps p))[j]'(by simpa using hjm)=sq ps p m:=by simp [ej]
     rw [<-h1]
     exact nd.idxOf_getElem j (by simpa using hjm)
    rw [hix]
    have per:∀t,sq ps p (m+t)=sq ps p (j+t):=fun t=>by rw [jA,jA,ej]
    have all:∀i,iT ps (sq ps p i)/\(j<=i->∃b,j<=b/\b<m/\sq ps p i=sq ps p b):=fun i=>by
     induction i using Nat.strongRecOn with
     | _ i ih =>
      by_cases him:i<m
      ·exact⟨hid i him,fun h=>⟨i,h,him,rfl⟩⟩
      ·have e:sq ps p i=sq ps p (j+(i-m)):=by rw [<-per (i-m)];congr 1;omega
       obtain⟨g1,g2⟩:=ih (j+(i-m)) (by omega)
       rw [e]
       exact⟨g1,fun _=>g2 (by omega)⟩
    have hmem:∀b,j<=b->b<m->sq ps p b∈((GN m).map (sq ps p)).drop j:=fun b h1 h2=>by
     rw [List.mem_iff_getElem?]
     refine⟨b-j,?_⟩
     rw [List.getElem?_drop,show j+(b-j)=b by omega,GI,Ia h2]
     rfl
    have hne:((GN m).map (sq ps p)).drop j≠[]:=fun z=>by have:=hmem j (Gi j) hjm;rw [z] at this;cases this
    have hmin:=vy hne
    obtain⟨i0,hi0⟩:=List.mem_iff_getElem?.mp hmin
    rw [List.getElem?_drop,GI] at hi0
    have hk:j+i0<m:=by
     cases z:(GN m)[j+i0]? with
     | none=>rw [z] at hi0;cases hi0
     | some y=>have:=(GQ.mp z).1;simpa using this
    rw [Ia hk] at hi0
    have hi0:sq ps p (j+i0)=kA (((GN m).map (sq ps p)).drop j):=GL.inj hi0
    refine⟨j+i0,m-j,by omega,hi0.symm,?_,fun i=>(all i).1,fun i=>?_⟩
    ·rw [show j+i0+(m-j)=m+i0 by omega,per]
    ·obtain⟨b,b1,b2,b3⟩:=(all (j+i0+i)).2 (by omega)
     rw [b3,hi0]
     exact Dh (hmem b b1 b2)
   ·rw [if_neg hm]
    have e:(GN m).map (sq ps p)++[sq ps p m]=(GN (m+1)).map (sq ps p):=by rw [List.range_succ,Gz];rfl
    rw [e,<-hnx]
    refine xI hin hp f (m+1) (by omega) (fun i hi'=>?_) ?_ (fun i hi'=>?_)
    ·by_cases z:i=m
     ·rw [z];exact hidm
     ·exact hid i (by omega)
    ·rw [<-e,Hv]
     refine⟨nd,by simp,fun x hx y hy z=>?_⟩
     rw [Gp.mp hy] at z
     exact hm (z ▸ hx)
    ·by_cases z:i=m+1
     ·rw [z,hnx]
      have:=hin _ (GJ hps)
      exact this
     ·exact lt i (by omega)
  ·left
   have hi':iR pc=false:=by cases z:iR pc with | true=>exact absurd z hi | false=>rfl
   rw [mz hps hi']
   exact⟨m,by omega,rfl,hid,fun z=>hi ((xH hps).mp z)⟩
theorem lW (hin:bO ps){p:Nat}(hp:p<ps.length):(∃k,k<=ps.length/\cg ps p=sq ps p k/\(∀i<k,iT ps (sq ps p i))/\¬iT ps (sq ps p k)) \/
  (∃k j,0<j/\cg ps p=sq ps p k/\sq ps p (k+j)=sq ps p k/\(∀i,iT ps (sq ps p i))/\∀i,sq ps p k<=sq ps p (k+i)) :=
 xI hin hp (ps.length+1) 0 rfl (fun i hi=>absurd hi (Nat.not_lt_zero i)) HB (fun i hi=>by rw [Nat.le_zero.mp hi];exact hp)
theorem mH (hin:bO ps){p q:Nat}(h:ps[p]?=some ([],.go q)):cg ps q=cg ps p:=by
 have hp:p<ps.length:=(GQ.mp h).1
 have hq:q<ps.length:=hin _ (GJ h)
 have hs:∀i,sq ps p (i+1)=sq ps q i:=fun i=>by rw [Nat.add_comm,jA];congr 1;exact vM h
 have hidp:iT ps p:=⟨q,h⟩
 rcases lW hin hp with ⟨k,_,e1,h1,h2⟩ | ⟨k,j,hj,e1,h1,h2,h3⟩
 ·cases k with
  | zero=>exact absurd hidp h2
  | succ k =>
   rw [hs] at e1 h2
   rcases lW hin hq with ⟨k',_,e1',h1',h2'⟩ | ⟨k',j',hj',e1',h1',h2',h3'⟩
   ·have:k=k':=by
     rcases Nat.lt_trichotomy k k' with z | z | z
     ·exact absurd (h1' k z) h2
     ·exact z
     ·have:=h1 (k' + 1) (by omega)
      rw [hs] at this
      exact absurd this h2'
    rw [e1,e1',this]
   ·exact absurd (h2' k) h2
 ·rcases lW hin hq with ⟨k',_,e1',h1',h2'⟩ | ⟨k',j',hj',e1',h1',h2',h3'⟩
  ·have:=h2 (k' + 1)
   rw [hs] at this
   exact absurd this h2'
  ·
   have up:∀n,sq ps p (k+n*j)=sq ps p k:=fun n=>by
    induction n with
    | zero=>rw [Nat.zero_mul];rfl
    | succ n ih =>
     rw [show k+(n+1)*j=(k+n*j)+j by rw [Nat.succ_mul];omega,jA,ih,<-jA,h1]
   have up':∀n,sq ps q (k' + n*j')=sq ps q k':=fun n=>by
    induction n with
    | zero=>rw [Nat.zero_mul];rfl
    | succ n ih =>
     rw [show k' + (n+1)*j' = (k' + n*j')+j' by rw [Nat.succ_mul];omega,jA,ih,<-jA,h1']
   have a1:sq ps p k<=sq ps q k':=by
    have e:=up' k
    rw [<-e,<-hs]
    have hb:k<=k' + k*j' + 1:=by
     have:k<=k*j':=Nat.le_mul_of_pos_right k hj'
     omega
    have:=h3 (k' + k*j' + 1-k)
    rw [show k+(k' + k*j' + 1-k)=k' + k*j' + 1 by omega] at this
    exact this
   have a2:sq ps q k' <= sq ps p k:=by
    have e:=up (k' + 1)
    rw [<-e]
    have hb:k' + 1<=k+(k' + 1)*j:=by
     have:k' + 1<=(k' + 1)*j:=Nat.le_mul_of_pos_right (k' + 1) hj
     omega
    have:=h3' (k+(k' + 1)*j-1-k')
    have e2:sq ps q (k+(k' + 1)*j-1)=sq ps p (k+(k' + 1)*j):=by rw [<-hs,show k+(k' + 1)*j-1+1=k+(k' + 1)*j by omega]
    rw [show k' + (k+(k' + 1)*j-1-k')=k+(k' + 1)*j-1 by omega,e2] at this
    exact this
   rw [e1,e1']
   omega
theorem xJ (hin:bO ps){p:Nat}(hp:p<ps.length):cg ps (cg ps p)=cg ps p:=by
 have key:∀i,cg ps (sq ps p i)=cg ps p:=fun i=>by
  induction i with
  | zero=>rfl
  | succ i ih =>
   show cg ps (tX ps (sq ps p i))=_
   unfold tX
   split
   ·rename_i q h
    rw [mH hin h,ih]
   ·exact ih
 rcases lW hin hp with ⟨k,_,e1,_,_⟩ | ⟨k,j,_,e1,_,_,_⟩
 ·rw [e1,key,e1]
 ·rw [e1,key,e1]
theorem Di {p:Nat}{pc:Piece}(h:ps[p]?=some pc)(hi:iR pc=false):cg ps p=p:=mz h hi
end
section
variable {ps:List Piece}{st:Nat->Nat}
theorem mI {ks ms:List Nat}{x:Nat}:x∈putAll ms ks↔x∈ms\/x∈ks:=LS.pK ks ms x
def El (ps:List Piece)(st:Nat->Nat)(ms:List Nat)(outs:List Piece):Prop:=∀(j:Nat) (p:Piece),outs[j]?=some p->∃(k:Nat) (pc:Piece),ms[j]?=some k/\ps[k]?=some pc/\p=jG pc ((aN pc.2).map st) ms/\∀q∈aN pc.2,st q∈ms
structure jB (ps:List Piece) (st:Nat->Nat) (ms:List Nat) (outs:List Piece):Prop where
 nd:ms.Nodup
 lt:∀k∈ms,k<ps.length/\st k=k
 le:outs.length<=ms.length
 rel:El ps st ms outs
theorem Ah {pc:Piece}{ks ms more:List Nat}(h:∀k∈ks,k∈ms):jG pc ks (ms++more)=jG pc ks ms:=by
 unfold jG
 rw [HK fun k hk=>by rw [IF,if_pos (h k hk)]]
theorem tY (hin:bO ps)(hst:∀k,k<ps.length->st k<ps.length/\st (st k)=st k):∀(fu:Nat) {ms:List Nat} {outs:List Piece},jB ps st ms outs->fu+outs.length=ps.length ->
  jB ps st (fB ps st fu ms outs).1 (fB ps st fu ms outs).2/\(fB ps st fu ms outs).2.length=(fB ps st fu ms outs).1.length/\∃more,(fB ps st fu ms outs).1=ms++more
 | 0,ms,outs,h,hf=>by
  have h1:=dz h.nd fun k hk=>(h.lt k hk).1
  have h2:=h.le
  exact⟨h,by show outs.length=ms.length;omega,[],by show ms=_;simp⟩
 | fu+1,ms,outs,h,hf=>by
  cases hk:ms[outs.length]? with
  | none =>
   rw [tQ hk]
   have:ms.length<=outs.length:=IX.mp hk
   have:=h.le
   exact⟨h,by show outs.length=ms.length;omega,[],by simp⟩
  | some k =>
   have hkm:=GJ hk
   have hkl:=(h.lt k hkm).1
   have hps:ps[k]?=some ps[k]:=by simp [hkl]
   generalize ps[k]=pc at hps
   rw [qR hk hps]
   have hw:∀q∈aN pc.2,q<ps.length:=fun q hq=>by
    obtain⟨ds,e⟩:=pc
    exact lU hin hps q hq
   obtain⟨more,em⟩:=jR ((aN pc.2).map st) ms
   have hol:outs.length<ms.length:=(GQ.mp hk).1
   have h':jB ps st (putAll ms ((aN pc.2).map st)) (outs++[jG pc ((aN pc.2).map st) (putAll ms ((aN pc.2).map st))]):=by
    refine⟨kT h.nd,fun x hx=>?_,?_,fun j p hj=>?_⟩
    ·rcases mI.mp hx with hx | hx
     ·exact h.lt x hx
     ·obtain⟨q,hq,rfl⟩:=GH.mp hx
      exact hst q (hw q hq)
    ·rw [em,Gr,Gr]
     show _+1<=_
     omega
    ·by_cases hjl:j<outs.length
     ·rw [Hf hjl] at hj
      obtain⟨k',pc',g1,g2,g3,g4⟩:=h.rel j p hj
      refine⟨k',pc',?_,g2,?_,fun q hq=>mI.mpr (.inl (g4 q hq))⟩
      ·rw [em,Hf (by omega)];exact g1
      ·rw [em,Ah fun x hx=>by obtain⟨q,hq,rfl⟩:=GH.mp hx;exact g4 q hq]
       exact g3
     ·have hje:j=outs.length:=by
       have:=(GQ.mp hj).1
       rw [Gr] at this
       have:j<outs.length+1:=this
       omega
      subst hje
      rw [HR (Gi _),Nat.sub_self] at hj
      cases hj
      refine⟨k,pc,?_,hps,rfl,fun q hq=>mI.mpr (.inr (GH.mpr ⟨q,hq,rfl⟩))⟩
      rw [em,Hf hol];exact hk
   obtain⟨i1,i2,more',i3⟩:=tY hin hst fu h' (by rw [Gr];show fu+(_+1)=_;omega)
   exact⟨i1,i2,more++more',by rw [i3,em,Ha]⟩
theorem kX (hin:bO ps)(h0:0<ps.length):jB ps (cg ps) (bG ps).1 (bG ps).2/\(bG ps).2.length=(bG ps).1.length/\(bG ps).1[0]?=some (cg ps 0):=by
  have e:∀k,k<ps.length->gd (fe ps) k=cg ps k:=fun k hk=>By hk
  have h:=tY (st:=gd (fe ps)) hin (fun k hk=>by rw [e k hk];have:=si hin hk;exact⟨this,by rw [e _ this,xJ hin hk]⟩) ps.length (ms:=[gd (fe ps) 0]) (outs:=[]) ⟨by simp,fun k hk=>by
    rw [Gp.mp hk,e 0 h0]
    have:=si hin h0
    exact⟨this,by rw [e _ this,xJ hin h0]⟩,GK _,fun j p hj=>by cases hj⟩ rfl
  obtain⟨I,hl,more,em⟩:=h
  refine⟨⟨I.nd,fun k hk=>?_,I.le,fun j p hj=>?_⟩,hl,?_⟩
  . have:=I.lt k hk
    rw [e k this.1] at this
    exact this
  . obtain⟨k,pc,g1,g2,g3,g4⟩:=I.rel j p hj
    have hw:∀q∈aN pc.2,gd (fe ps) q=cg ps q:=fun q hq=>by
      obtain⟨ds,ee⟩:=pc
      exact e q (lU hin g2 q hq)
    refine⟨k,pc,g1,g2,?_,fun q hq=>by rw [<-hw q hq];exact g4 q hq⟩
    rw [<-HK hw]
    exact g3
  . show (fB ps (gd (fe ps)) ps.length [gd (fe ps) 0] []).1[0]?=_
    rw [em,<-e 0 h0]
    rfl
theorem Dj {e:End}{f:Nat->Nat}{w:Str->Int}:xG (mB e ((aN e).map f)) w=(xG e w).map f:=by
 cases e with
 | stop=>rfl
 | go p=>rfl
 | cE b x n p q =>
  show some (if fD b (w x) n=true then f p else f q)=some (f (if fD b (w x) n=true then p else q))
  split <;> rfl
structure gQ (ps:List Piece) (ms:List Nat) (outs:List Piece) (S S':RS):Prop where
 w:S'.w=S.w
 taken:S'.taken=S.taken
 told:S'.told=S.told
 word:S'.word=S.word
 lt:S.aP<ps.length
 at_:ms[S'.aP]?=some (cg ps S.aP)
 E5:iT ps S.aP->S.place=0/\S'.place=0
 place:¬iT ps S.aP->S'.place=S.place
theorem gQ.idle {ms:List Nat}{outs:List Piece}{nums:List Int}{S S':RS}(hin:bO ps)(h:gQ ps ms outs S S')(hi:iT ps S.aP):gQ ps ms outs (cB ps nums S) S':=by
 obtain⟨q,hq⟩:=hi
 obtain⟨p0,p0'⟩:=h.E5 ⟨q,hq⟩
 have e:cB ps nums S={ S with aP:=q,place:=0,bX:=S.bX++[q] }:=by
  rw [gK hq (by simp),jy]
  rfl
 rw [e]
 refine⟨h.w,h.taken,h.told,h.word,hin _ (GJ hq),?_,fun _=>⟨rfl,p0'⟩,fun _=>p0'⟩
 show ms[S'.aP]?=some (cg ps q)
 rw [mH hin hq]
 exact h.at_
theorem gQ.step {ms:List Nat}{outs:List Piece}{nums:List Int}{S S':RS}(hin:bO ps)(I:jB ps (cg ps) ms outs)(hl:outs.length=ms.length)(h:gQ ps ms outs S S')(hi:¬iT ps S.aP):gQ ps ms outs (cB ps nums S) (cB outs nums S'):=by
 have hlt0:S.aP<ps.length:=h.lt
 have hps:ps[S.aP]?=some ps[S.aP]:=by simp [hlt0]
 generalize hpc:ps[S.aP]=pc at hps
 have hnb:iR pc=false:=by
  cases z:iR pc with
  | true=>exact absurd ((xH hps).mpr z) hi
  | false=>rfl
 have hat:=h.at_
 rw [Di hps hnb] at hat
 have hlt:S'.aP<outs.length:=by rw [hl];exact (GQ.mp hat).1
 have hos:outs[S'.aP]?=some outs[S'.aP]:=by simp [hlt]
 generalize outs[S'.aP]=po at hos
 obtain⟨k,pc2,g1,g2,g3,g4⟩:=I.rel _ _ hos
 rw [hat] at g1
 cases g1
 rw [hps] at g2
 cases g2
 subst g3
 obtain⟨ds,e⟩:=pc
 have hpl:=h.place hi
 cases hd:ds[S.place]? with
 | some dd =>
  rw [jt hps hd,jt (ds:=ds) (e:=mB e (((aN e).map (cg ps)).map ms.idxOf)) hos (by rw [hpl];exact hd)]
  have at':ms[S'.aP]?=some (cg ps S.aP):=h.at_
  cases dd with
  | put x n=>exact⟨by show iw S'.w x n=_;rw [h.w];rfl,h.taken,h.told,h.word,h.lt,at',fun z=>absurd z hi,fun _=>by show S'.place+1=S.place+1;rw [hpl]⟩
  | copy x y=>exact⟨by show iw S'.w x (S'.w y)=_;rw [h.w];rfl,h.taken,h.told,h.word,h.lt,at',fun z=>absurd z hi,fun _=>by show S'.place+1=S.place+1;rw [hpl]⟩
  | add x n=>exact⟨by show iw S'.w x (S'.w x+n)=_;rw [h.w];rfl,h.taken,h.told,h.word,h.lt,at',fun z=>absurd z hi,fun _=>by show S'.place+1=S.place+1;rw [hpl]⟩
  | tell x=>exact⟨h.w,h.taken,by show S'.told++[S'.w x]=_;rw [h.told,h.w];rfl,h.word,h.lt,at',fun z=>absurd z hi,fun _=>by show S'.place+1=S.place+1;rw [hpl]⟩
  | read x =>
   unfold fG
   rw [h.taken]
   cases hn:nums[S.taken]? with
   | none=>exact⟨h.w,rfl,h.told,rfl,h.lt,at',fun z=>absurd z hi,fun _=>hpl⟩
   | some n=>exact⟨by show iw S'.w x n=iw S.w x n;rw [h.w],rfl,h.told,h.word,h.lt,at',fun z=>absurd z hi,fun _=>by show S'.place+1=S.place+1;rw [hpl]⟩
 | none =>
  rw [gK hps hd,gK (ds:=ds) (e:=mB e (((aN e).map (cg ps)).map ms.idxOf)) hos (by rw [hpl];exact hd),jy,jy]
  have en:xG (mB e (((aN e).map (cg ps)).map ms.idxOf)) S'.w=(xG e S.w).map fun p=>ms.idxOf (cg ps p):=by
   rw [Hu,h.w]
   exact Dj (f:=ms.idxOf ∘ cg ps)
  rw [en]
  cases hx:xG e S.w with
  | none=>exact⟨h.w,h.taken,h.told,rfl,h.lt,h.at_,fun z=>absurd z hi,fun _=>hpl⟩
  | some p =>
   have hpm:p∈aN e:=by
    cases e with
    | stop=>cases hx
    | go q=>cases hx;exact Gp.mpr rfl
    | cE b x n q r =>
     have:(if fD b (S.w x) n=true then q else r)=p:=GL.inj hx
     rw [<-this]
     split
     ·exact GB ..
     ·exact GC _ (GB ..)
   refine⟨h.w,h.taken,h.told,h.word,lU hin hps p hpm,?_,fun _=>⟨rfl,rfl⟩,fun _=>rfl⟩
   show ms[ms.idxOf (cg ps p)]?=some (cg ps p)
   have hm:=g4 p hpm
   have hil:=HC hm
   rw [Hw hil,IE hil]
theorem gQ.start {ms:List Nat}{outs:List Piece}(h0:0<ps.length)(hm:ms[0]?=some (cg ps 0)):gQ ps ms outs (bD 0 fun _=>0) (bD 0 fun _=>0):=⟨rfl,rfl,rfl,rfl,h0,hm,fun _=>⟨rfl,rfl⟩,fun _=>rfl⟩
theorem jC {nums:List Int} {S:RS} (h:S.word = "on"):fK ps nums S=cB ps nums S:=by unfold fK;rw [if_pos h]
theorem sF {nums:List Int} {S:RS} (h:¬S.word = "on"):fK ps nums S=S:=by unfold fK;rw [if_neg h]
theorem o3 {ms:List Nat}{outs:List Piece}{nums:List Int}(hin:bO ps)(I:jB ps (cg ps) ms outs)(hl:outs.length=ms.length){S S':RS}(h:gQ ps ms outs S S'):∀k,∃j,j<=k/\gQ ps ms outs (aM ps nums k S) (aM outs nums j S')
 | 0=>⟨0,Gi 0,h⟩
 | k+1=>by
  obtain⟨j,hj,r⟩:=o3 (nums:=nums) hin I hl h k
  show ∃j,j<=k+1/\gQ ps ms outs (fK ps nums (aM ps nums k S)) (aM outs nums j S')
  by_cases hw:(aM ps nums k S).word = "on"
  ·rw [jC hw]
   by_cases hi:iT ps (aM ps nums k S).aP
   ·exact⟨j,by omega,r.idle hin hi⟩
   ·refine⟨j+1,by omega,?_⟩
    show gQ ps ms outs _ (fK outs nums (aM outs nums j S'))
    rw [jC (by rw [r.word];exact hw)]
    exact r.step hin I hl hi
  ·rw [sF hw]
   exact⟨j,by omega,r⟩
theorem Ai {nums:List Int}{S:RS}:∃more,(cB ps nums S).told=S.told++more:=by
 cases hx:ps[S.aP]? with
 | none=>exact⟨[],by unfold cB;rw [hx];simp⟩
 | some pc =>
  obtain⟨ds,e⟩:=pc
  cases hd:ds[S.place]? with
  | some dd =>
   rw [jt hx hd]
   cases dd with
   | tell x=>exact⟨[S.w x],rfl⟩
   | read x =>
    unfold fG
    cases nums[S.taken]? with
    | none=>exact⟨[],by simp⟩
    | some n=>exact⟨[],by simp⟩
   | put x n=>exact⟨[],by simp [fG]⟩
   | copy x y=>exact⟨[],by simp [fG]⟩
   | add x n=>exact⟨[],by simp [fG]⟩
  | none =>
   rw [gK hx hd]
   cases e <;> exact⟨[],by simp [jh]⟩
theorem nY {nums:List Int}{S:RS}(j:Nat):∀k,∃more,(aM ps nums (j+k) S).told=(aM ps nums j S).told++more
 | 0=>⟨[],by simp⟩
 | k+1=>by
  obtain⟨m1,e1⟩:=nY (nums:=nums) (S:=S) j k
  show ∃more,(fK ps nums (aM ps nums (j+k) S)).told=_
  unfold fK
  split
  ·obtain⟨m2,e2⟩:=Ai (ps:=ps) (nums:=nums) (S:=aM ps nums (j+k) S)
   exact⟨m1++m2,by rw [e2,e1,Ha]⟩
  ·exact⟨m1,e1⟩
theorem vP (nums:List Int)(S:RS)(j:Nat):∀i,aM ps nums (j+i) S=aM ps nums i (aM ps nums j S)
 | 0=>rfl
 | i+1=>by
  show fK ps nums (aM ps nums (j+i) S)=fK ps nums (aM ps nums i (aM ps nums j S))
  rw [vP nums S j i]
theorem gQ.Cq {ms:List Nat} {outs:List Piece} {nums:List Int} {S S':RS} (hin:bO ps) (h:gQ ps ms outs S S') (hw:S.word = "on"):∀i,(∀a<i,iT ps (sq ps S.aP a))->gQ ps ms outs (aM ps nums i S) S'/\(aM ps nums i S).aP=sq ps S.aP i/\(aM ps nums i S).word = "on"
 | 0,_=>⟨h,rfl,hw⟩
 | i+1,hid=>by
  obtain⟨r,e,w1⟩:=gQ.Cq (nums:=nums) hin h hw i fun a ha=>hid a (by omega)
  have hi:iT ps (aM ps nums i S).aP:=by rw [e];exact hid i (G8 i)
  have r':=r.idle (nums:=nums) hin hi
  obtain⟨q,hq⟩:=id hi
  have es:cB ps nums (aM ps nums i S)={ aM ps nums i S with aP:=q,place:=0,bX:=(aM ps nums i S).bX++[q] }:=by
   rw [gK hq (by simp),jy]
   rfl
  refine⟨?_,?_,?_⟩
  ·show gQ ps ms outs (fK ps nums (aM ps nums i S)) S'
   rw [jC w1];exact r'
  ·show (fK ps nums (aM ps nums i S)).aP=tX ps (sq ps S.aP i)
   rw [jC w1,es,<-e,vM hq]
  ·show (fK ps nums (aM ps nums i S)).word = "on"
   rw [jC w1,es];exact w1
structure jY (ps:List Piece) (ms:List Nat) (S':RS):Prop where
 at_:∃q,ms[S'.aP]?=some q/\iT ps q
 place:S'.place=0
theorem jY.step {ms:List Nat}{outs:List Piece}{nums:List Int}{S':RS}(hin:bO ps)(I:jB ps (cg ps) ms outs)(hl:outs.length=ms.length)(h:jY ps ms S'):jY ps ms (fK outs nums S')/\(fK outs nums S').told=S'.told:=by
 by_cases hw:S'.word = "on"
 ·rw [jC hw]
  obtain⟨⟨q,hq,r,hr⟩,h0⟩:=h
  have hlt:S'.aP<outs.length:=by rw [hl];exact (GQ.mp hq).1
  have hos:outs[S'.aP]?=some outs[S'.aP]:=by simp [hlt]
  generalize outs[S'.aP]=po at hos
  obtain⟨k,pc2,g1,g2,g3,g4⟩:=I.rel _ _ hos
  rw [hq] at g1
  cases g1
  rw [hr] at g2
  cases g2
  subst g3
  rw [gK (ds:=[]) (e:=.go (ms.idxOf (cg ps r))) hos (by simp),jy]
  have hqm:=GJ hq
  have hf:cg ps r=q:=by rw [mH hin hr,(I.lt q hqm).2]
  refine⟨⟨⟨q,?_,r,hr⟩,rfl⟩,rfl⟩
  show ms[ms.idxOf (cg ps r)]?=some q
  rw [hf]
  have hil:=HC hqm
  rw [Hw hil,IE hil]
 ·rw [sF hw]
  exact⟨h,rfl⟩
theorem nZ {ms:List Nat}{outs:List Piece}{nums:List Int}(hin:bO ps)(I:jB ps (cg ps) ms outs)(hl:outs.length=ms.length){S S':RS}(h:gQ ps ms outs S S'):∀k,∃j,j<=k*(ps.length+1) /\
  (gQ ps ms outs (aM ps nums j S) (aM outs nums k S')\/((aM outs nums k S').told=(aM ps nums j S).told/\jY ps ms (aM outs nums k S')))
 | 0=>⟨0,GK _,.inl h⟩
 | k+1=>by
  obtain⟨j,hj,r⟩:=nZ (nums:=nums) hin I hl h k
  have hk1:(k+1)*(ps.length+1)=k*(ps.length+1)+(ps.length+1):=Nat.succ_mul _ _
  show ∃j,j<=(k+1)*(ps.length+1)/\(gQ ps ms outs (aM ps nums j S) (fK outs nums (aM outs nums k S'))\/((fK outs nums (aM outs nums k S')).told=(aM ps nums j S).told/\jY ps ms (fK outs nums (aM outs nums k S'))))
  rcases r with r | ⟨r1,r2⟩
  ·by_cases hw:(aM ps nums j S).word = "on"
   ·have hw':(aM outs nums k S').word = "on" := by rw [r.word];exact hw
    rcases lW hin r.lt with ⟨i,hi,e1,h1,h2⟩ | ⟨i,jj,_,e1,_,h2,_⟩
    ·obtain⟨r',e,w'⟩:=r.Cq (nums:=nums) hin hw i h1
     rw [<-vP] at r' e w'
     refine⟨j+i+1,by omega,.inl ?_⟩
     show gQ ps ms outs (fK ps nums (aM ps nums (j+i) S)) _
     rw [jC w',jC hw']
     exact r'.step hin I hl (by rw [e];exact h2)
    ·have hq:=r.at_
     rw [e1] at hq
     have f:jY ps ms (aM outs nums k S'):=⟨⟨_,hq,h2 i⟩,(r.E5 (h2 0)).2⟩
     obtain⟨f1,f2⟩:=f.step (nums:=nums) hin I hl
     exact⟨j,by omega,.inr ⟨by rw [f2,r.told],f1⟩⟩
   ·rw [sF (by rw [r.word];exact hw)]
    exact⟨j,by omega,.inl r⟩
  ·obtain⟨f1,f2⟩:=r2.step (nums:=nums) hin I hl
   exact⟨j,by omega,.inr ⟨by rw [f2,r1],f1⟩⟩
theorem wm (hin:bO ps)(h0:0<ps.length)(nums:List Int)(k:Nat) :
  (¬(aM ps nums k (bD 0 fun _=>0)).word = "on" -> (aM (bG ps).2 nums k (bD 0 fun _=>0)).word=(aM ps nums k (bD 0 fun _=>0)).word/\(aM (bG ps).2 nums k (bD 0 fun _=>0)).told=(aM ps nums k (bD 0 fun _=>0)).told) /\
  (∃more,(aM (bG ps).2 nums k (bD 0 fun _=>0)).told=(aM ps nums k (bD 0 fun _=>0)).told++more) /\
  ∃more,(aM ps nums (k*(ps.length+1)) (bD 0 fun _=>0)).told=(aM (bG ps).2 nums k (bD 0 fun _=>0)).told++more:=by
 obtain⟨I,hl,hm⟩:=kX hin h0
 have s0:gQ ps (bG ps).1 (bG ps).2 (bD 0 fun _=>0) (bD 0 fun _=>0):=gQ.start h0 hm
 obtain⟨j,hj,r⟩:=o3 (nums:=nums) hin I hl s0 k
 obtain⟨m1,e1⟩:=nY (ps:=(bG ps).2) (nums:=nums) (S:=bD 0 fun _=>0) j (k-j)
 rw [show j+(k-j)=k by omega] at e1
 refine⟨fun hw=>?_,⟨m1,by rw [e1,r.told]⟩,?_⟩
 ·have hoff:=i6 (ps:=(bG ps).2) (nums:=nums) (n:=j) (S:=bD 0 fun _=>0) (by rw [r.word];exact hw) (k-j)
  rw [show j+(k-j)=k by omega] at hoff
  rw [hoff]
  exact⟨r.word,r.told⟩
 ·obtain⟨i,hi,r2⟩:=nZ (nums:=nums) hin I hl s0 k
  obtain⟨m2,e2⟩:=nY (ps:=ps) (nums:=nums) (S:=bD 0 fun _=>0) i (k*(ps.length+1)-i)
  rw [show i+(k*(ps.length+1)-i)=k*(ps.length+1) by omega] at e2
  refine⟨m2,?_⟩
  rw [e2]
  rcases r2 with r2 | ⟨r2,_⟩
  ·rw [r2.told]
  ·rw [r2]
theorem yF {xs:List Str}{m:Nat}(pok:cL xs m ps)(h0:0<ps.length):cL xs m (bG ps).2:=by
 obtain⟨I,hl,hm⟩:=kX pok.qx h0
 have key:∀p∈(bG ps).2,(p.1.length<=m/\∀d∈p.1,eW xs d)/\iO xs (bG ps).2.length p.2:=fun p hp=>by
  obtain⟨j,hj⟩:=II hp
  obtain⟨k,pc,g1,g2,rfl,g4⟩:=I.rel j p hj
  have hpm:=GJ g2
  refine⟨(show pc.1.length<=m/\∀d∈pc.1,eW xs d from pok.iP pc hpm),?_⟩
  have he:=pok.ends pc hpm
  have hix:∀q∈aN pc.2,(bG ps).1.idxOf (cg ps q)<(bG ps).2.length:=fun q hq=>by rw [hl];exact HC (g4 q hq)
  obtain⟨ds,e⟩:=pc
  cases e with
  | stop=>exact True.intro
  | go q=>exact hix q (Gp.mpr rfl)
  | cE b x n q r=>exact⟨he.1,he.2.1,hix q (GB ..),hix r (GC _ (GB ..))⟩
 exact⟨fun p hp=>(key p hp).1,fun p hp=>(key p hp).2⟩
theorem yG (hin:bO ps)(h0:0<ps.length){j q:Nat}(h:(bG ps).2[j]?=some ([],.go q)):q=j:=by
 obtain⟨I,hl,hm⟩:=kX hin h0
 obtain⟨k,pc,g1,g2,g3,g4⟩:=I.rel j _ h
 obtain⟨ds,e⟩:=pc
 have e1:ds=[]:=(congrArg Prod.fst g3).symm
 have e2:mB e (((aN e).map (cg ps)).map (bG ps).1.idxOf)=.go q:=(congrArg Prod.snd g3).symm
 subst e1
 cases e with
 | stop=>cases e2
 | cE b x n p r=>cases e2
 | go r =>
  have e3:(bG ps).1.idxOf (cg ps r)=q:=by cases e2;rfl
  have hkm:=GJ g1
  rw [mH hin g2,(I.lt k hkm).2] at e3
  rw [<-e3]
  obtain⟨hjl,he⟩:=GQ.mp g1
  rw [<-he]
  exact I.nd.idxOf_getElem j hjl
end
def tZ (a b:Sp):Sp:=fun vs H Q E=>a vs H Q E\/b vs H Q E
def sG:Sp:=fun vs H Q _=>∃(pv:V) (st np d tl bl:Addr) (ps:List Piece) (nums:List Int) (S:RS) (m:Nat),vs=[pv,.ref st,.ref np]/\aX H pv (cN ps)/\bO ps/\H np=some (.tup (nums.map V.int))/\fJ H st d tl bl S m /\
 S.aP<ps.length/\S.taken<=nums.length/\m<=300000/\∀st' H',fJ H' st' d tl bl (cB ps nums S) (m+1)->ff d tl bl H H'->Q (.ref st') H'
def sH:Sp:=fun vs H Q _=>∃(np:Addr) (plv:V) (n:Nat) (nums:List Int) (ps:List Piece),vs=[plv,.ref np,.int n]/\aX H plv (cN ps)/\bO ps/\0<ps.length/\H np=some (.tup (nums.map V.int))/\n<=200000 /\
 ∀st d tl bl H',fJ H' st d tl bl (aM ps nums n (bD 0 fun _=>0)) n->ar H H'->Q (.ref st) H'
def sI:Sp:=fun vs H Q _=>∃(np:Addr) (plv:V) (n:Nat) (nums:List Int) (ps:List Piece),vs=[plv,.ref np,.int n]/\aX H plv (cN ps)/\bO ps/\0<ps.length/\H np=some (.tup (nums.map V.int))/\n<=200000 /\
 ∀v H',aX H' v (ik (aM ps nums n (bD 0 fun _=>0)))->ar H H'->Q v H'
def pS:Sp:=fun vs H Q _=>∃(np pp:Addr) (lv:V) (n:Nat) (nums:List Int) (ps:List Piece) (pvs:List V),vs=[.ref pp,lv,.ref np,.int n]/\H pp=some (.tup pvs)/\br H pvs (ps.map df)/\aX H lv (cN (bG ps).2)/\bO ps/\bO (bG ps).2/\0<ps.length/\0<(bG ps).2.length/\ps.length<=60/\H np=some (.tup (nums.map V.int))/\n<=2000 /\
 ∀H',ar H H'->Q (.bl true) H'
theorem t9 (xs:List Int)(k:Nat):fC (xs.map V.int) none (some (k:Nat))=(xs.take k).map V.int:=by
 unfold fC
 rw [HT.pd,HT.rD]
 simp [List.map_take]
end L2
namespace My
open PySem PySem.Spec PyProof.Rows L2
def top (i:Nat):Stmt:=PySem.Challenge.pw_ledpast_k19_whole_short_tells_the_same.main.body.getD i (.Pass ⟨0,0,0,0⟩)
structure Bl (mg:Str->Option Value):Prop where
 len:mg "len" = none
 zip:mg "zip" = none
 tuple:mg "tuple" = none
 sorted:mg "sorted" = none
 set:mg "set" = none
 dict:mg "dict" = none
 min:mg "min" = none
 max:mg "max" = none
 range:mg "range" = none
 list:mg "list" = none
 int:mg "int" = none
abbrev d6:Stmt:=top 3
theorem pT:aO ["thing", "kinds", "wanted"] ["thing", "kinds", "wanted"] (au d6):=⟨rfl,rfl,rfl,by decide +kernel,rfl,by decide +kernel,by decide +kernel⟩
abbrev iC:Stmt:=top 5
theorem yH:aO ["end"] ["end"] (au iC):=⟨rfl,rfl,rfl,by decide +kernel,rfl,by decide +kernel,by decide +kernel⟩
abbrev eJ:Stmt:=top 6
theorem qU:aO ["end"] ["end"] (au eJ):=⟨rfl,rfl,rfl,by decide +kernel,rfl,by decide +kernel,by decide +kernel⟩
abbrev hJ:Stmt:=top 4
theorem ip:aO ["plan", "names", "deeds", "end", "deed"] ["plan"] (au hJ):=⟨rfl,rfl,rfl,by decide +kernel,rfl,by decide +kernel,by decide +kernel⟩
abbrev iD:Stmt:=top 19
theorem mJ:aO ["number", "stretch", "low", "high"] ["number", "stretch"] (au iD):=⟨rfl,rfl,rfl,by decide +kernel,rfl,by decide +kernel,by decide +kernel⟩
abbrev fN:Stmt:=top 20
theorem ir:aO ["stretch", "number", "low", "high", "top"] ["stretch", "number"] (au fN):=⟨rfl,rfl,rfl,by decide +kernel,rfl,by decide +kernel,by decide +kernel⟩
abbrev gh:Stmt:=top 21
theorem iU:aO ["stretch", "number", "low", "high", "bottom"] ["stretch", "number"] (au gh):=⟨rfl,rfl,rfl,by decide +kernel,rfl,by decide +kernel,by decide +kernel⟩
abbrev iE:Stmt:=top 22
theorem yI:aO ["stretch", "number"] ["stretch", "number"] (au iE):=⟨rfl,rfl,rfl,by decide +kernel,rfl,by decide +kernel,by decide +kernel⟩
abbrev fj:Stmt:=top 23
theorem jb:aO ["stretch", "number", "low", "high"] ["stretch", "number"] (au fj):=⟨rfl,rfl,rfl,by decide +kernel,rfl,by decide +kernel,by decide +kernel⟩
abbrev iF:Stmt:=top 24
theorem yJ:aO ["stretch", "word", "number", "side"] ["stretch", "word", "number", "side"] (au iF):=⟨rfl,rfl,rfl,by decide +kernel,rfl,by decide +kernel,by decide +kernel⟩
abbrev hR:Stmt:=top 28
theorem wo:aO ["stretches"] ["stretches"] (au hR):=⟨rfl,rfl,rfl,by decide +kernel,rfl,by decide +kernel,by decide +kernel⟩
abbrev jZ:Stmt:=top 29
theorem BF:aO ["facts", "name"] ["facts", "name"] (au jZ):=⟨rfl,rfl,rfl,by decide +kernel,rfl,by decide +kernel,by decide +kernel⟩
abbrev fO:Stmt:=top 30
theorem mU:aO ["facts", "name", "stretch", "stretches"] ["facts", "name", "stretch"] (au fO):=⟨rfl,rfl,rfl,by decide +kernel,rfl,by decide +kernel,by decide +kernel⟩
abbrev j0:Stmt:=top 31
theorem pU:aO ["stretch", "number", "low", "high"] ["stretch", "number"] (au j0):=⟨rfl,rfl,rfl,by decide +kernel,rfl,by decide +kernel,by decide +kernel⟩
abbrev dG:Stmt:=top 32
theorem jL:aO ["stretches", "deed", "word", "name"] ["stretches", "deed"] (au dG):=⟨rfl,rfl,rfl,by decide +kernel,rfl,by decide +kernel,by decide +kernel⟩
abbrev jc:Stmt:=top 33
theorem n9:aO ["facts", "deeds", "stretches", "deed"] ["facts", "deeds"] (au jc):=⟨rfl,rfl,rfl,by decide +kernel,rfl,by decide +kernel,by decide +kernel⟩
abbrev eM:Stmt:=top 34
theorem dt:aO ["facts", "end", "ways", "word", "name", "number", "stretch", "parts"] ["facts", "end"] (au eM):=⟨rfl,rfl,rfl,by decide +kernel,rfl,by decide +kernel,by decide +kernel⟩
abbrev j1:Stmt:=top 35
theorem vQ:aO ["facts", "end", "beyond"] ["facts", "end"] (au j1):=⟨rfl,rfl,rfl,by decide +kernel,rfl,by decide +kernel,by decide +kernel⟩
abbrev j2:Stmt:=top 36
theorem BG:aO ["plan"] ["plan"] (au j2):=⟨rfl,rfl,rfl,by decide +kernel,rfl,by decide +kernel,by decide +kernel⟩
abbrev eN:Stmt:=inClass (top 7) 0
theorem qV:aO ["self", "first"] ["self", "first"] (au eN):=⟨rfl,rfl,rfl,by decide +kernel,rfl,by decide +kernel,by decide +kernel⟩
abbrev eO:Stmt:=inClass (top 7) 1
theorem qW:aO ["self", "thing"] ["self", "thing"] (au eO):=⟨rfl,rfl,rfl,by decide +kernel,rfl,by decide +kernel,by decide +kernel⟩
abbrev iG:Stmt:=top 9
theorem iV:aO ["plan", "found", "waiting", "at", "way"] ["plan"] (au iG):=⟨rfl,rfl,rfl,by decide +kernel,rfl,by decide +kernel,by decide +kernel⟩
abbrev j3:Stmt:=top 10
theorem mK:aO ["plan", "found", "at", "way"] ["plan"] (au j3):=⟨rfl,rfl,rfl,by decide +kernel,rfl,by decide +kernel,by decide +kernel⟩
abbrev hU:Stmt:=top 39
theorem o4:aO ["lead", "tops", "places", "most", "piece"] ["lead", "tops", "places", "most"] (au hU):=⟨rfl,rfl,rfl,by decide +kernel,rfl,by decide +kernel,by decide +kernel⟩
abbrev jd:Stmt:=top 40
theorem Aj:aO ["end", "ways"] ["end", "ways"] (au jd):=⟨rfl,rfl,rfl,by decide +kernel,rfl,by decide +kernel,by decide +kernel⟩
abbrev hV:Stmt:=top 41
theorem di:aO ["plan", "most", "tops", "copies", "pieces", "piece", "facts", "deeds", "end", "ahead", "ways"] ["plan", "most"] (au hV):=⟨rfl,rfl,rfl,by decide +kernel,rfl,by decide +kernel,by decide +kernel⟩
abbrev fk:Stmt:=top 8
theorem eQ:aO ["plan", "steads", "row", "pieces", "deeds", "end", "ways"] ["plan", "steads"] (au fk):=⟨rfl,rfl,rfl,by decide +kernel,rfl,by decide +kernel,by decide +kernel⟩
abbrev iH:Stmt:=top 12
theorem mL:aO ["piece", "deeds", "end"] ["piece"] (au iH):=⟨rfl,rfl,rfl,by decide +kernel,rfl,by decide +kernel,by decide +kernel⟩
abbrev hX:Stmt:=top 13
theorem jl:aO ["plan", "at", "passed", "found"] ["plan", "at"] (au hX):=⟨rfl,rfl,rfl,by decide +kernel,rfl,by decide +kernel,by decide +kernel⟩
abbrev j4:Stmt:=top 14
theorem BH:aO ["plan"] ["plan"] (au j4):=⟨rfl,rfl,rfl,by decide +kernel,rfl,by decide +kernel,by decide +kernel⟩
abbrev gm:Stmt:=top 25
theorem vR:aO ["stretch", "word", "number"] ["stretch", "word", "number"] (au gm):=⟨rfl,rfl,rfl,by decide +kernel,rfl,by decide +kernel,by decide +kernel⟩
abbrev fm:Stmt:=inClass (top 43) 1
theorem sJ:aO ["self", "name"] ["self", "name"] (au fm):=⟨rfl,rfl,rfl,by decide +kernel,rfl,by decide +kernel,by decide +kernel⟩
abbrev eS:Stmt:=inClass (top 43) 2
theorem iW:aO ["self", "deeds", "end"] ["self"] (au eS):=⟨rfl,rfl,rfl,by decide +kernel,rfl,by decide +kernel,by decide +kernel⟩
abbrev cO:Stmt:=inClass (top 43) 3
theorem lX:aO ["self"] ["self"] (au cO):=⟨rfl,rfl,rfl,by decide +kernel,rfl,by decide +kernel,by decide +kernel⟩
abbrev d7:Stmt:=inClass (top 43) 4
theorem pV:aO ["self"] ["self"] (au d7):=⟨rfl,rfl,rfl,by decide +kernel,rfl,by decide +kernel,by decide +kernel⟩
abbrev cS:Stmt:=inClass (top 43) 5
theorem mM:aO ["self"] ["self"] (au cS):=⟨rfl,rfl,rfl,by decide +kernel,rfl,by decide +kernel,by decide +kernel⟩
abbrev d8:Stmt:=inClass (top 43) 6
theorem kH:aO ["self", "deed", "word", "name"] ["self", "deed"] (au d8):=⟨rfl,rfl,rfl,by decide +kernel,rfl,by decide +kernel,by decide +kernel⟩
abbrev d9:Stmt:=inClass (top 43) 7
theorem pW:aO ["self", "piece"] ["self", "piece"] (au d9):=⟨rfl,rfl,rfl,by decide +kernel,rfl,by decide +kernel,by decide +kernel⟩
abbrev eT:Stmt:=inClass (top 43) 8
theorem du:aO ["self", "end", "word", "name", "number", "yes", "no", "worth"] ["self", "end"] (au eT):=⟨rfl,rfl,rfl,by decide +kernel,rfl,by decide +kernel,by decide +kernel⟩
abbrev eh:Stmt:=inClass (top 43) 9
theorem iz:aO ["self", "deeds", "end"] ["self"] (au eh):=⟨rfl,rfl,rfl,by decide +kernel,rfl,by decide +kernel,by decide +kernel⟩
abbrev dH:Stmt:=inClass (top 43) 0
theorem oB:aO ["self", "pieces", "begin", "worths", "numbers"] ["self", "pieces", "begin", "worths", "numbers"] (au dH):=⟨rfl,rfl,rfl,by decide +kernel,rfl,by decide +kernel,by decide +kernel⟩
abbrev j5:Stmt:=top 44
theorem pX:aO ["stand", "steps", "done"] ["stand", "steps"] (au j5):=⟨rfl,rfl,rfl,by decide +kernel,rfl,by decide +kernel,by decide +kernel⟩
abbrev je:Stmt:=top 45
theorem kY:aO ["plan", "piece", "worths", "numbers", "steps", "stand", "done", "held"] ["plan", "piece", "worths", "numbers", "steps"] (au je):=⟨rfl,rfl,rfl,by decide +kernel,rfl,by decide +kernel,by decide +kernel⟩
abbrev oy:Stmt:=top 46
theorem Em:aO ["plan", "numbers", "steps"] ["plan", "numbers", "steps"] (au oy):=⟨rfl,rfl,rfl,by decide +kernel,rfl,by decide +kernel,by decide +kernel⟩
abbrev iI:Stmt:=top 48
theorem mN:aO ["script", "k", "cell"] ["script", "k"] (au iI):=⟨rfl,rfl,rfl,by decide +kernel,rfl,by decide +kernel,by decide +kernel⟩
abbrev hZ:Stmt:=top 49
theorem o5:aO ["bag", "many", "found"] ["bag", "many"] (au hZ):=⟨rfl,rfl,rfl,by decide +kernel,rfl,by decide +kernel,by decide +kernel⟩
abbrev gn:Stmt:=top 50
theorem dY:aO ["bag", "letters", "many", "base", "at", "names", "k", "name"] ["bag"] (au gn):=⟨rfl,rfl,rfl,by decide +kernel,rfl,by decide +kernel,by decide +kernel⟩
abbrev fP:Stmt:=top 51
theorem uh:aO ["bag"] ["bag"] (au fP):=⟨rfl,rfl,rfl,by decide +kernel,rfl,by decide +kernel,by decide +kernel⟩
abbrev ia:Stmt:=top 52
theorem lB:aO ["bag", "names", "word", "name"] ["bag", "names"] (au ia):=⟨rfl,rfl,rfl,by decide +kernel,rfl,by decide +kernel,by decide +kernel⟩
abbrev iJ:Stmt:=top 53
theorem jU:aO ["bag", "names", "count", "way", "word", "name"] ["bag", "names", "count"] (au iJ):=⟨rfl,rfl,rfl,by decide +kernel,rfl,by decide +kernel,by decide +kernel⟩
abbrev ib:Stmt:=top 54
theorem gr:aO ["bag", "count", "most", "names", "pieces", "k", "many", "end"] ["bag", "count", "most"] (au ib):=⟨rfl,rfl,rfl,by decide +kernel,rfl,by decide +kernel,by decide +kernel⟩
abbrev gu:Stmt:=top 55
theorem vS:aO ["bag", "most"] ["bag", "most"] (au gu):=⟨rfl,rfl,rfl,by decide +kernel,rfl,by decide +kernel,by decide +kernel⟩
abbrev ic:Stmt:=top 57
theorem bV:aO ["plan", "state", "numbers", "piece", "place", "worths", "taken", "told", "word", "been", "deeds", "end", "deed", "worth", "there", "yes"] ["plan", "state", "numbers"] (au ic):=⟨rfl,rfl,rfl,by decide +kernel,rfl,by decide +kernel,by decide +kernel⟩
abbrev ie:Stmt:=top 58
theorem jm:aO ["plan", "numbers", "steps", "state", "k"] ["plan", "numbers", "steps"] (au ie):=⟨rfl,rfl,rfl,by decide +kernel,rfl,by decide +kernel,by decide +kernel⟩
abbrev gx:Stmt:=top 59
theorem oa:aO ["bag", "many"] ["bag"] (au gx):=⟨rfl,rfl,rfl,by decide +kernel,rfl,by decide +kernel,by decide +kernel⟩
abbrev er:Stmt:=top 56
theorem de:aO ["bag", "count", "plan", "some", "deeds", "end"] ["bag", "count"] (au er):=⟨rfl,rfl,rfl,by decide +kernel,rfl,by decide +kernel,by decide +kernel⟩
abbrev ig:Stmt:=top 60
theorem o6:aO ["plan", "numbers", "steps", "state"] ["plan", "numbers", "steps"] (au ig):=⟨rfl,rfl,rfl,by decide +kernel,rfl,by decide +kernel,by decide +kernel⟩
abbrev gy:Stmt:=top 61
theorem gR:aO ["plan", "less", "numbers", "steps", "word", "told", "found", "more"] ["plan", "less", "numbers", "steps"] (au gy):=⟨rfl,rfl,rfl,by decide +kernel,rfl,by decide +kernel,by decide +kernel⟩
abbrev jV:Stmt:=top 62
theorem gS:aO ["script", "bag", "plan", "less", "kept", "k", "numbers", "steps"] ["script"] (au jV):=⟨rfl,rfl,rfl,by decide +kernel,rfl,by decide +kernel,by decide +kernel⟩
section
variable {P:Program}{w:World}{K:Gh}{mg:Str->Option Value}{base:Heap}
theorem pY {f:Addr} {fd:FuncData} (F:bS K "parts_of_kind" "parts_of_kind" d6 f fd) (Z:Bl mg)  : bh P w K mg base bQ 1 f fd ["thing", "kinds", "wanted"] (oo K):=by
 refine F.ok (k:=0) pT (fun vs H Q E h=>?_) (fun cdv A outer s H vs Q E hr h=>?_)
 ·obtain⟨t,s,v0,xs,ks,w,rfl,_⟩:=h
  rfl
 ·obtain⟨t,s,v0,xs,ks,w,rfl,ht,hs,hl,q⟩:=h
  refine⟨_,(av (aC (fR ["part", "kind"] ["wanted"] [2] rfl (zJ rfl Z.zip (aa (km om (pv 0) (lI ao) lH) (aa (pv 1) af))) rfl (by decide +kernel) (by decide +kernel) (by decide +kernel) ⟨⟨rfl,.inl rfl,rfl⟩,True.intro⟩ (fun _ _ _ _=>(w9 (K:=K) (n:=2) rfl (cU (n:=2) rfl (aR (aG (i:=0) (show ((["part", "kind"]:List Str)++(["wanted"]:List Str)).Nodup by decide +kernel) rfl (Gf rfl) (hf:=GO rfl)) (aR (aG (i:=1) (show ((["part", "kind"]:List Str)++(["wanted"]:List Str)).Nodup by decide +kernel) rfl (Gf rfl) (hf:=GO rfl)) cI))))) (fun _ _ _ _=>(rH (aI bP (pv 1) (pv 2) (aQ _)))) (fun _ _ _ _=>(pv 0))))),?_⟩
  refine⟨_,rfl,_,rfl,t,_,rfl,ay.of ht,fun hw=>?_,fun _ p np=>?_⟩
  ·exfalso
   obtain⟨h1,_⟩:=hw
   simp [HT.bR] at h1
  ·have ec:fC (v0::xs) (some 1) none=xs:=by simp [fC,HT.bR]
   rw [ec]
   have sp:=ar.new (o:=.tup xs) np
   refine⟨_,rfl,p,s,rfl,⟨_,ay.of ae⟩,⟨_,hs.same sp⟩,fun acc na=>?_⟩
   refine zK (K:=K) (a:=p) (b:=s) (xs:=xs) (ys:=ks.map V.str) (fun i zs Ge H'=>∃(c1 c2:Option V),Ge=[c1,c2,some (.str w)]/\zs=kO w xs ks i/\H' acc=some (.lst zs)/\H' p=some (.tup xs)/\ar H H') ?_ ?_ ?_ ?_
   ·exact⟨none,none,rfl,rfl,ae,ar.new na _ _ ae,sp.trans (ar.new na)⟩
   ·rintro i zs Ge H4 hi ⟨c1,c2,rfl,rfl,ha,hp4,s4⟩
    exact⟨ay.of hp4,hs.same s4,ha,cM (by have:=zM (w:=w) (xs:=xs) (ks:=ks) (i:=i);omega)⟩
   ·rintro i x y zs Ge H4 u hx hy hu ⟨c1,c2,rfl,rfl,ha,hp4,s4⟩
    obtain⟨k,rfl,hk⟩:∃k,y=V.str k/\ks[i]?=some k:=by
     rw [GI] at hy
     cases e:ks[i]? with
     | none=>rw [e] at hy;cases hy
     | some k=>rw [e] at hy;exact⟨k,(GL.inj hy).symm,rfl⟩
    have su:=ar.new (o:=.tup [x,.str k]) hu
    refine⟨u,_,rfl,ay.of ae,rfl,_,_,rfl,_,_,rfl,rfl,?_⟩
    refine⟨_,rfl,_,rfl,rfl,_,rfl,?_⟩
    have hn:=yl (w:=w) hx hk
    by_cases hkw:k=w
    ·rw [if_pos hkw] at hn
     refine bZ (decide_eq_true (congrArg V.str hkw)) ?_
     refine⟨_,rfl,su _ _ ha,_,_,rfl,hn.symm,ae,?_,?_⟩
     ·rw [ai (bB hp4 ha (by intro z;cases z))]
      exact su _ _ hp4
     ·exact (s4.trans su).put (sp.free na)
    ·rw [if_neg hkw,HF] at hn
     refine aU (decide_eq_false fun z=>hkw (V.str.inj z)) ?_
     exact⟨_,_,rfl,hn.symm,su _ _ ha,su _ _ hp4,s4.trans su⟩
   ·rintro zs Ge H4 ⟨c1,c2,rfl,rfl,ha,hp4,s4⟩
    rw [zL] at ha
    exact q acc H4 ha s4
theorem yK {f:Addr} {fd:FuncData} (F:bS K "ways_on" "ways_on" iC f fd) (Z:Bl mg) {aE s0 s1 s2 s3:Addr} (GE:vg K mg aE s0 s1 s2 s3) (O_parts_of_kind:Own P w K mg base "parts_of_kind" 1 ["thing", "kinds", "wanted"] (oo K)):bh P w K mg base bQ 3 f fd ["end"] jv:=by
 refine F.ok (k:=2) yH (fun vs H Q E h=>?_) (fun cdv A outer s H vs Q E hr h=>?_)
 ·obtain⟨ea,e,rfl,_⟩:=h
  rfl
 ·obtain⟨ea,e,rfl,he,q⟩:=h
  refine⟨_,(av (aC (bA bu rfl Z.tuple cb (aa (aB O_parts_of_kind (hr.mono (by decide)) rfl (aa (pv 0) (aa (r9 GE.tab rfl (aF aK (pv 0) ao (fun _ _=>rfl)) (fun _ _=>rfl)) (aa bc af)))) af)))),?_⟩
  obtain⟨xs,ev,hl,hp⟩:=zN e
  rw [ev] at he
  obtain⟨s,hs,ks⟩:=GE.at_ e
  refine⟨_,rfl,_,rfl,ea,_,0,_,rfl,rfl,ay.of he,bM,_,s,rfl,hs,ea,s,_,xs,kE e, "piece",rfl,he,.inr ks,hl,fun l H1 hl1 s1=>?_⟩
  rw [hp] at hl1
  exact⟨l,_,rfl,.inl ⟨aY.of hl1,fun t ht=>q t _ ae (s1.trans (ar.new ht))⟩⟩
theorem qX {f:Addr} {fd:FuncData} (F:bS K "without_ways" "without_ways" eJ f fd) (Z:Bl mg) (O_ways_on:Own P w K mg base "ways_on" 3 ["end"] jv):bh P w K mg base bQ 4 f fd ["end"] kU:=by
 refine F.ok (k:=3) qU (fun vs H Q E h=>?_) (fun cdv A outer s H vs Q E hr h=>?_)
 ·obtain⟨ea,e,rfl,_⟩:=h
  rfl
 ·obtain⟨ea,e,rfl,he,q⟩:=h
  refine⟨_,(av (aC (km om (pv 0) lH (lI (bC gH (bb aV rfl Z.len bT (aa (pv 0) af)) (bb aV rfl Z.len bT (aa (aB O_ways_on (hr.mono (by decide)) rfl (aa (pv 0) af)) af))))))),?_⟩
  refine⟨_,rfl,_,rfl,ea,_,rfl,.inr (ay.of he),_,rfl,ea,e,rfl,he,fun t H1 ht s1=>⟨t,_,rfl,.inr (ay.of ht),_,_,rfl,rfl,?_⟩⟩
  have he1:=s1 _ _ he
  have el:((fg e).length:Int)-(((aN e).map fun k=>V.int (k:Nat)).length:Int)=((jQ e).length:Nat):=by cases e <;> rfl
  have ec:fC (fg e) none (some ((jQ e).length:Nat))=jQ e:=by
   unfold fC
   rw [HT.pd,HT.rD]
   cases e <;> rfl
  refine⟨_,congrArg V.int el,ea,_,rfl,ay.of he1,fun hw=>?_,fun _ p hp=>?_⟩
  ·unfold fC at ec
   rw [hw.1,hw.2] at ec
   refine q ea H1 ?_ s1
   rw [he1,<-ec]
   simp
  ·rw [ec]
   exact q p _ ae (s1.trans (ar.new hp))
theorem wq {f:Addr} {fd:FuncData} (F:bS K "names_of" "names_of" hJ f fd) (Z:Bl mg) {aD d0 d1 d2 d3 d4:Addr} (GD:uv K mg aD d0 d1 d2 d3 d4) {aE s0 s1 s2 s3:Addr} (GE:vg K mg aE s0 s1 s2 s3) (O_parts_of_kind:Own P w K mg base "parts_of_kind" 1 ["thing", "kinds", "wanted"] (oo K)):bh P w K mg base bQ 3 f fd ["plan"] nK:=by
 refine F.ok (k:=2) ip (fun vs H Q E h=>?_) (fun cdv A outer s H vs Q E hr h=>?_)
 ·obtain⟨plv,ps,xs,m,rfl,_⟩:=h
  rfl
 ·obtain⟨plv,ps,xs,m,rfl,hp,pok,hx64,hal,q⟩:=h
  refine⟨_,(ah (aT (i:=1) ip.nd rfl (Gf rfl) (cP af))
   (ah (fY PassesOwn.never rfl (fX (pv 0)) (cU rfl (aR (aG (i:=2) ip.nd rfl (Gf rfl)) (aR (aG (i:=3) ip.nd rfl (Gf rfl)) cI)))
   (ah (fY PassesOwn.never rfl (fX (pv 2)) (aG (i:=4) ip.nd rfl (Gf rfl))
   (av (cx (fb PySem.F.plainAttrs_list PySem.F.slot_list_extend PySem.F.type_list_extend tf (pv 1) (aa (aB O_parts_of_kind (hr.mono (by decide)) rfl (aa (pv 4) (aa (r9 GD.tab rfl (aF aK (pv 4) ao (fun _ _=>rfl)) (fun _ _=>rfl)) (aa bc af)))) af)))))
   (av (cx (fb PySem.F.plainAttrs_list PySem.F.slot_list_extend PySem.F.type_list_extend tf (pv 1) (aa (aB O_parts_of_kind (hr.mono (by decide)) rfl (aa (pv 3) (aa (r9 GE.tab rfl (aF aK (pv 3) ao (fun _ _=>rfl)) (fun _ _=>rfl)) (aa bc af)))) af))))))
   (av (aC (bA bu rfl Z.tuple cb (aa (bb (uc rfl) rfl Z.sorted kN (aa (bA (zX rfl) rfl Z.set vq (aa (pv 1) af)) af)) af)))))),?_⟩
  obtain⟨pp,vs,rfl,e1,r⟩:=aX.bN hp
  have hl:=r.len
  refine⟨(by show 0<=sizeLine;decide),fun nm nn=>?_⟩
  have s0:=ar.new (o:=.lst []) nn
  have big:∀(i:Nat) (ys:List Str),ys.length<=4000->(ys.map V.str).length<=sizeLine:=fun i ys h=>by rw [Gg];exact Gy h (by decide)
  refine⟨_,rfl,pp,rfl,⟨_,ay.of (s0 _ _ e1)⟩,iX (K:=K) (a:=pp) (xs:=vs) (fun i Gd H'=>∃(u1 u2 u3:Option V),Gd=[some (.ref pp),some (.ref nm),u1,u2,u3]/\H' nm=some (.lst ((bU (ps.take i)).map V.str))/\ar H H') ?_ ?_ ?_ ?_⟩
  ·exact⟨_,_,_,rfl,ae,s0⟩
  ·rintro i Gd H1 hi ⟨u1,u2,u3,rfl,h1,s1⟩
   exact ay.of (s1 _ _ e1)
  ·rintro i x Gd H1 hi ⟨u1,u2,u3,rfl,h1,s1⟩
   have hlt:i<ps.length:=by
    have:=(GQ.mp hi).1
    rw [hl,Gg] at this
    exact this
   have hpi:ps[i]?=some ps[i]:=by simp [hlt]
   generalize ps[i]=pe at hpi
   obtain⟨ds,e⟩:=pe
   have hnext:=tI (f:=pNames) hpi
   have hsz:(bU (ps.take (i+1))).length<=4000:=Gy (mR (f:=pNames) (i+1)) hal
   have hsz':(bU (ps.take i)).length+((ds.flatMap eD).length+(ku e).length)<=4000:=by
    have z:=congrArg Hx hnext
    unfold bU at hsz ⊢
    rw [z] at hsz
    simp only [Gr,pNames] at hsz
    omega
   obtain⟨p',xs',pc,da,ea,ws,ep,e1',el',hx',e2,e3,r3,e4⟩:=eX hp hpi
   cases ep
   rw [e1] at e1'
   cases e1'
   rw [hi] at hx'
   cases hx'
   refine⟨pc,_,rfl,ay.of (s1 _ _ e2),rfl,_,_,rfl,_,_,rfl,rfl,?_⟩
   refine⟨_,rfl,da,rfl,⟨_,ay.of (s1 _ _ e3)⟩,iX (K:=K) (a:=da) (xs:=ws) (fun j Gd H'=>∃(u3:Option V),Gd=[some (.ref pp),some (.ref nm),some (.ref da),some (.ref ea),u3]/\H' nm=some (.lst ((bU (ps.take i)++(ds.take j).flatMap eD).map V.str))/\ar H H') ?_ ?_ ?_ ?_⟩
   ·exact⟨_,rfl,by simpa using h1,s1⟩
   ·rintro j Gd H2 hj ⟨u3',rfl,h2,s2⟩
    exact ay.of (s2 _ _ e3)
   ·rintro j y Gd H2 hj ⟨u3',rfl,h2,s2⟩
    have hjl:j<ds.length:=by
     have:=(GQ.mp hj).1
     rw [r3.len,Gg] at this
     exact this
    have hdj:ds[j]?=some ds[j]:=by simp [hjl]
    generalize ds[j]=dd at hdj
    obtain⟨v,hv,rd⟩:=r3.get (i:=j) (d:=dI dd) (by rw [GI,hdj];rfl)
    rw [hj] at hv
    cases hv
    obtain⟨dp,rfl,hdp⟩:=lM rd
    have hdp2:=s2 _ _ hdp
    obtain⟨zs,ez,hzl,hpk⟩:=yu dd
    rw [ez] at hdp2
    obtain⟨s,hs,ks⟩:=GD.at_ dd
    have hnj:=tI (f:=eD) hdj
    have hsj:((ds.take (j+1)).flatMap eD).length<=(ds.flatMap eD).length:=mR (f:=eD) (j+1)
    refine dB ?_
    refine⟨_,rfl,.inl ⟨rfl,_,aY.of h2⟩,_,rfl,_,rfl,dp,_,0,_,rfl,rfl,ay.of hdp2,bM,_,s,rfl,hs,dp,s,_,zs,kD dd, "name",rfl,hdp2,.inr ks,hzl,fun l H3 hl3 s3=>?_⟩
    rw [hpk] at hl3
    have h3:=s3 _ _ h2
    refine⟨nm,l,_,_,rfl,rfl,h3,hl3,?_,?_⟩
    ·rw [Gg,Gg,Gr]
     rw [hnj,Gr] at hsj
     exact Gy (show _<=4000 by omega) (by decide)
    ·refine⟨_,rfl,?_,(s2.trans s3).put nn⟩
     rw [ae,hnj,<-Ha];simp only [Gz]
   ·rintro Gd H2 ⟨u3',rfl,h2,s2⟩
    rw [show ws.length=ds.length by rw [r3.len,Gg],G7] at h2
    have e42:=s2 _ _ e4
    obtain⟨zs,ez,hzl,hpk⟩:=yw e
    rw [ez] at e42
    obtain⟨s,hs,ks⟩:=GE.at_ e
    refine⟨_,rfl,.inl ⟨rfl,_,aY.of h2⟩,_,rfl,_,rfl,ea,_,0,_,rfl,rfl,ay.of e42,bM,_,s,rfl,hs,ea,s,_,zs,kE e, "name",rfl,e42,.inr ks,hzl,fun l H3 hl3 s3=>?_⟩
    rw [hpk] at hl3
    have h3:=s3 _ _ h2
    refine⟨nm,l,_,_,rfl,rfl,h3,hl3,?_,?_⟩
    ·rw [Gg,Gg,Gr]
     exact Gy (show _<=4000 by omega) (by decide)
    ·refine⟨_,_,_,rfl,?_,(s2.trans s3).put nn⟩
     rw [ae,<-Gz]
     unfold bU at hnext ⊢
     rw [hnext]
     simp only [pNames,Ha]
  ·rintro Gd H1 ⟨u1,u2,u3,rfl,h1,s1⟩
   rw [show vs.length=ps.length by rw [hl,Gg],G7] at h1
   have hk:aY K H1 nm (((bU ps).map (Sum.inr:Str->Key)).map kV):=by rw [CZ];exact aY.of h1
   refine⟨_,rfl,nm,(bU ps).map Sum.inr,rfl,hk,(by rw [Gg];show _+1<4096;omega),fun sa hsa=>?_⟩
   have hf:=Br pok
   refine⟨sa,LS.dZ (bU ps),rfl,(by rw [ae,yx]),(by omega),fun l ss hperm hsort hn=>?_⟩
   have s2:=ar.new (o:=bW P w sa (LS.dZ ((bU ps).map (Sum.inr:Str->Key)))) hsa
   refine⟨l,_,rfl,.inl ⟨aY.of ae,fun t ht=>?_⟩⟩
   exact q t ss _ ae hperm hsort (by rw [hperm.length_eq];omega) (((s1.trans s2).trans (ar.new hn)).trans (ar.new ht))
theorem yL {f:Addr} {fd:FuncData} (F:bS K "lies_in" "lies_in" iD f fd) (Z:Bl mg)  : bh P w K mg base bQ 1 f fd ["number", "stretch"] (sr K):=by
 refine F.ok (k:=0) mJ (fun vs H Q E h=>?_) (fun cdv A outer s H vs Q E hr h=>?_)
 ·obtain⟨n,q,lo,hi,rfl,_⟩:=h
  rfl
 ·obtain⟨n,q,lo,hi,rfl,hq,k⟩:=h
  refine⟨_,(ah (cV (pv 1) (cU rfl (aR (aG (i:=2) mJ.nd rfl (Gf rfl)) (aR (aG (i:=3) mJ.nd rfl (Gf rfl)) cI))))
   (av (aC (uG (xM (yY (iL (pv 2))) (lF (fH xQ (pv 2) (pv 0) (aQ _)))) (lF (xM (yY (iL (pv 3))) (lF (fH xQ (pv 0) (pv 3) (aQ _))))))))),?_⟩
  refine⟨_,rfl,q,_,rfl,hq,rfl,_,_,rfl,_,_,rfl,rfl,?_⟩
  cases lo with
  | none =>
   refine⟨_,rfl,_,rfl,cD ⟨_,rfl,cD ?_⟩⟩
   cases hi with
   | none=>exact⟨_,rfl,_,rfl,cD k⟩
   | some b =>
    refine⟨_,rfl,_,rfl,cq ⟨_,rfl,_,rfl,_,_,rfl,rfl,?_⟩⟩
    simpa only [kL,IC] using k
  | some a =>
   refine⟨_,rfl,_,rfl,cq ⟨_,rfl,_,rfl,_,_,rfl,rfl,_,rfl,?_⟩⟩
   cases hx:decide (a<=n) with
   | false=>exact cq (by have k':=k;simp only [kL,hx,Ih] at k';exact k')
   | true =>
    refine cD ?_
    cases hi with
    | none=>exact⟨_,rfl,_,rfl,cD (by have k':=k;simp only [kL,hx,IC] at k';exact k')⟩
    | some b =>
     refine⟨_,rfl,_,rfl,cq ⟨_,rfl,_,rfl,_,_,rfl,rfl,?_⟩⟩
     have k':=k
     simp only [kL,hx,IC] at k'
     exact k'
theorem ui {f:Addr} {fd:FuncData} (F:bS K "part_below" "part_below" fN f fd) (Z:Bl mg)  : bh P w K mg base bQ 1 f fd ["stretch", "number"] (jH K gc):=by
 refine F.ok (k:=0) ir (fun vs H Q E h=>?_) (fun cdv A outer s H vs Q E hr h=>?_)
 ·obtain⟨p,n,lo,hi,rfl,_⟩:=h
  rfl
 ·obtain⟨p,n,lo,hi,rfl,hp,q⟩:=h
  refine⟨_,(ah (cV (pv 0) (cU rfl (aR (aG (i:=2) ir.nd rfl (Gf rfl)) (aR (aG (i:=3) ir.nd rfl (Gf rfl)) cI))))
   (ah (aT (i:=4) ir.nd rfl (Gf rfl) (eB (gG (iL (pv 3))) (bC gH (pv 1) ao) (bb (m4 rfl) rfl Z.min qo (aa (pv 3) (aa (bC gH (pv 1) ao) af)))))
   (ah (bw (PW.pt (kc (gG (rp (pv 2))) (jW (aI uo (pv 2) (pv 4) (aQ _)))))
   (av (aC j8))
   bf)
   (av (aC (bx (aa (pv 2) (aa (pv 4) af)))))))),?_⟩
  refine⟨_,rfl,p,_,rfl,hp,rfl,_,_,rfl,_,_,rfl,rfl,?_⟩
  cases hi with
  | none =>
   refine⟨_,rfl,_,rfl,cD ⟨_,rfl,_,_,rfl,rfl,?_⟩⟩
   cases lo with
   | none =>
    refine⟨_,rfl,_,rfl,cq (cq ⟨_,rfl,_,rfl,ln2,fun l hl=>?_⟩)⟩
    exact q _ _ ⟨l,rfl,ae⟩ (ar.new hl)
   | some i =>
    refine⟨_,rfl,_,rfl,cD ⟨_,rfl,_,rfl,_,_,rfl,rfl,_,rfl,?_⟩⟩
    refine cZ (fun hc=>?_) (fun hc=>?_)
    ·have hlt:jE none n<i:=of_decide_eq_true hc
     exact q _ _ (by simp only [gc];rw [if_pos hlt];rfl) (ar.refl H)
    ·have hlt:¬jE none n<i:=fun z=>hc (decide_eq_true z)
     refine⟨_,rfl,_,rfl,ln2,fun l hl=>?_⟩
     exact q _ _ (by simp only [gc];rw [if_neg hlt];exact⟨l,rfl,ae⟩) (ar.new hl)
  | some j =>
   refine⟨_,rfl,_,rfl,cq ⟨_,rfl,_,rfl,_,_,rfl,rfl,_,_,rfl,?_⟩⟩
   cases lo with
   | none =>
    refine⟨_,rfl,_,rfl,cq (cq ⟨_,rfl,_,rfl,ln2,fun l hl=>?_⟩)⟩
    exact q _ _ ⟨l,rfl,ae⟩ (ar.new hl)
   | some i =>
    refine⟨_,rfl,_,rfl,cD ⟨_,rfl,_,rfl,_,_,rfl,rfl,_,rfl,?_⟩⟩
    refine cZ (fun hc=>?_) (fun hc=>?_)
    ·have hlt:jE (some j) n<i:=of_decide_eq_true hc
     exact q _ _ (by simp only [gc];rw [if_pos hlt];rfl) (ar.refl H)
    ·have hlt:¬jE (some j) n<i:=fun z=>hc (decide_eq_true z)
     refine⟨_,rfl,_,rfl,ln2,fun l hl=>?_⟩
     exact q _ _ (by simp only [gc];rw [if_neg hlt];exact⟨l,rfl,ae⟩) (ar.new hl)
theorem vT {f:Addr} {fd:FuncData} (F:bS K "part_from" "part_from" gh f fd) (Z:Bl mg)  : bh P w K mg base bQ 1 f fd ["stretch", "number"] (jH K gX):=by
 refine F.ok (k:=0) iU (fun vs H Q E h=>?_) (fun cdv A outer s H vs Q E hr h=>?_)
 ·obtain⟨p,n,lo,hi,rfl,_⟩:=h
  rfl
 ·obtain⟨p,n,lo,hi,rfl,hp,q⟩:=h
  refine⟨_,(ah (cV (pv 0) (cU rfl (aR (aG (i:=2) iU.nd rfl (Gf rfl)) (aR (aG (i:=3) iU.nd rfl (Gf rfl)) cI))))
   (ah (aT (i:=4) iU.nd rfl (Gf rfl) (eB (gG (iL (pv 2))) (pv 1) (bb (sQ rfl) rfl Z.max zk (aa (pv 2) (aa (pv 1) af)))))
   (ah (bw (PW.pt (kc (gG (rp (pv 3))) (jW (aI uo (pv 4) (pv 3) (aQ _)))))
   (av (aC j8))
   bf)
   (av (aC (bx (aa (pv 4) (aa (pv 3) af)))))))),?_⟩
  refine⟨_,rfl,p,_,rfl,hp,rfl,_,_,rfl,_,_,rfl,rfl,?_⟩
  cases lo with
  | none =>
   refine⟨_,rfl,_,rfl,cD ⟨_,rfl,?_⟩⟩
   cases hi with
   | none =>
    refine⟨_,rfl,_,rfl,cq (cq ⟨_,rfl,_,rfl,ln2,fun l hl=>?_⟩)⟩
    exact q _ _ ⟨l,rfl,ae⟩ (ar.new hl)
   | some j =>
    refine⟨_,rfl,_,rfl,cD ⟨_,rfl,_,rfl,_,_,rfl,rfl,_,rfl,?_⟩⟩
    refine cZ (fun hc=>?_) (fun hc=>?_)
    ·have hlt:j<ix none n:=of_decide_eq_true hc
     exact q _ _ (by simp only [gX];rw [if_pos hlt];rfl) (ar.refl H)
    ·have hlt:¬j<ix none n:=fun z=>hc (decide_eq_true z)
     refine⟨_,rfl,_,rfl,ln2,fun l hl=>?_⟩
     exact q _ _ (by simp only [gX];rw [if_neg hlt];exact⟨l,rfl,ae⟩) (ar.new hl)
  | some i =>
   refine⟨_,rfl,_,rfl,cq ⟨_,rfl,_,rfl,_,_,rfl,?_⟩⟩
   cases hi with
   | none =>
    refine⟨_,rfl,_,rfl,cq (cq ⟨_,rfl,_,rfl,ln2,fun l hl=>?_⟩)⟩
    exact q _ _ ⟨l,rfl,ae⟩ (ar.new hl)
   | some j =>
    refine⟨_,rfl,_,rfl,cD ⟨_,rfl,_,rfl,_,_,rfl,rfl,_,rfl,?_⟩⟩
    refine cZ (fun hc=>?_) (fun hc=>?_)
    ·have hlt:j<ix (some i) n:=of_decide_eq_true hc
     exact q _ _ (by simp only [gX];rw [if_pos hlt];rfl) (ar.refl H)
    ·have hlt:¬j<ix (some i) n:=fun z=>hc (decide_eq_true z)
     refine⟨_,rfl,_,rfl,ln2,fun l hl=>?_⟩
     exact q _ _ (by simp only [gX];rw [if_neg hlt];exact⟨l,rfl,ae⟩) (ar.new hl)
theorem yM {f:Addr} {fd:FuncData} (F:bS K "part_at" "part_at" iE f fd) (Z:Bl mg) (O_lies_in:Own P w K mg base "lies_in" 1 ["number", "stretch"] (sr K)):bh P w K mg base bQ 2 f fd ["stretch", "number"] (jH K nv):=by
  refine F.ok (k:=1) yI (fun vs H Q E h=>?_) (fun cdv A outer s H vs Q E hr h=>?_)
  . obtain⟨p,n,lo,hi,rfl,_⟩:=h
    rfl
  . obtain⟨p,n,lo,hi,rfl,hp,q⟩:=h
    refine⟨_,(ah (bw (j9 (aB O_lies_in (hr.mono (by decide)) rfl (aa (pv 1) (aa (pv 0) af))))
      (av (aC (bx (aa (pv 1) (aa (pv 1) af)))))
      bf)
      (av (aC j8))),?_⟩
    refine⟨_,rfl,_,rfl,n,p,lo,hi,rfl,hp,_,rfl,?_⟩
    refine cZ (fun hc=>?_) (fun hc=>?_)
    . refine⟨_,rfl,_,rfl,ln2,fun l hl=>?_⟩
      exact q _ _ (by simp only [nv,if_pos hc];exact⟨l,rfl,ae⟩) (ar.new hl)
    . exact q _ _ (by simp only [nv,if_neg hc];rfl) (ar.refl H)
theorem sL {f:Addr} {fd:FuncData} (F:bS K "part_beside" "part_beside" fj f fd) (Z:Bl mg)  : bh P w K mg base bQ 1 f fd ["stretch", "number"] (jH K iy):=by
 refine F.ok (k:=0) jb (fun vs H Q E h=>?_) (fun cdv A outer s H vs Q E hr h=>?_)
 ·obtain⟨p,n,lo,hi,rfl,_⟩:=h
  rfl
 ·obtain⟨p,n,lo,hi,rfl,hp,q⟩:=h
  refine⟨_,(ah (cV (pv 0) (cU rfl (aR (aG (i:=2) jb.nd rfl (Gf rfl)) (aR (aG (i:=3) jb.nd rfl (Gf rfl)) cI))))
   (ah (bw (PW.pt (kc (aI bP (pv 2) (pv 1) (aQ _)) (jW (aI bP (pv 3) (pv 1) (aQ _)))))
   (av (aC j8))
   bf)
   (ah (bw (aI bP (pv 2) (pv 1) (aQ _))
   (av (aC (bx (aa (bC dm (pv 1) ao) (aa (pv 3) af)))))
   bf)
   (ah (bw (aI bP (pv 3) (pv 1) (aQ _))
   (av (aC (bx (aa (pv 2) (aa (bC gH (pv 1) ao) af)))))
   bf)
   (av (aC (bx (aa (pv 2) (aa (pv 3) af))))))))),?_⟩
  refine⟨_,rfl,p,_,rfl,hp,rfl,_,_,rfl,_,_,rfl,rfl,?_⟩
  refine⟨_,rfl,_,rfl,ny,_,rfl,?_⟩
  rw [qy]
  refine cZ (fun hc=>?_) (fun hc=>?_)
  ·have h1:lo=some n:=of_decide_eq_true hc
   refine⟨_,rfl,_,rfl,ny,_,rfl,?_⟩
   rw [qy]
   refine cZ (fun hd=>?_) (fun hd=>?_)
   ·have h2:hi=some n:=of_decide_eq_true hd
    exact q _ _ (by simp only [iy,if_pos h1,if_pos h2];rfl) (ar.refl H)
   ·have h2:¬hi=some n:=fun z=>hd (decide_eq_true z)
    refine⟨_,rfl,_,rfl,ny,_,rfl,?_⟩
    rw [qy,hc]
    refine cD ⟨_,rfl,_,_,rfl,rfl,_,rfl,ln2,fun l hl=>?_⟩
    exact q _ _ (by simp only [iy,if_pos h1,if_neg h2];exact⟨l,rfl,ae⟩) (ar.new hl)
  ·have h1:¬lo=some n:=fun z=>hc (decide_eq_true z)
   refine cq ?_
   refine⟨_,rfl,_,rfl,ny,_,rfl,?_⟩
   rw [qy,show decide (lo=some n)=false from decide_eq_false h1]
   refine cq ?_
   refine⟨_,rfl,_,rfl,ny,_,rfl,?_⟩
   rw [qy]
   refine cZ (fun hd=>?_) (fun hd=>?_)
   ·have h2:hi=some n:=of_decide_eq_true hd
    refine⟨_,rfl,_,rfl,_,_,rfl,rfl,ln2,fun l hl=>?_⟩
    exact q _ _ (by simp only [iy,if_neg h1,if_pos h2];exact⟨l,rfl,ae⟩) (ar.new hl)
   ·have h2:¬hi=some n:=fun z=>hd (decide_eq_true z)
    refine⟨_,rfl,_,rfl,ln2,fun l hl=>?_⟩
    exact q _ _ (by simp only [iy,if_neg h1,if_neg h2];exact⟨l,rfl,ae⟩) (ar.new hl)
theorem yN {f:Addr} {fd:FuncData} (F:bS K "part_of" "part_of" iF f fd) (Z:Bl mg) (O_part_below:Own P w K mg base "part_below" 1 ["stretch", "number"] (jH K gc)) (O_part_from:Own P w K mg base "part_from" 1 ["stretch", "number"] (jH K gX)) (O_part_at:Own P w K mg base "part_at" 2 ["stretch", "number"] (jH K nv)) (O_part_beside:Own P w K mg base "part_beside" 1 ["stretch", "number"] (jH K iy)):bh P w K mg base bQ 3 f fd ["stretch", "word", "number", "side"] (ox K):=by
 refine F.ok (k:=2) yJ (fun vs H Q E h=>?_) (fun cdv A outer s H vs Q E hr h=>?_)
 ·obtain⟨p,w,n,side,lo,hi,rfl,_⟩:=h
  rfl
 ·obtain⟨p,w,n,side,lo,hi,rfl,hp,q⟩:=h
  refine⟨_,(ah (bw (aI bP (pv 1) bc (aQ _))
   (av (aC (eB (j9 (pv 3)) (aB O_part_below (hr.mono (by decide)) rfl (aa (pv 0) (aa (pv 2) af))) (aB O_part_from (hr.mono (by decide)) rfl (aa (pv 0) (aa (pv 2) af))))))
   bf)
   (av (aC (eB (j9 (pv 3)) (aB O_part_at (hr.mono (by decide)) rfl (aa (pv 0) (aa (pv 2) af))) (aB O_part_beside (hr.mono (by decide)) rfl (aa (pv 0) (aa (pv 2) af))))))),?_⟩
  refine⟨_,rfl,rfl,_,rfl,?_⟩
  by_cases hw:w = "less"
  ·subst hw
   rw [zx]
   refine cD ⟨_,rfl,_,rfl,?_⟩
   cases side with
   | true=>exact cD ⟨_,rfl,_,rfl,p,n,lo,hi,rfl,hp,fun v H1 r s1=>q v H1 (by simp only [dM,ji,if_true];exact r) s1⟩
   | false=>exact cq ⟨_,rfl,_,rfl,p,n,lo,hi,rfl,hp,fun v H1 r s1=>q v H1 (by simp only [dM,ji,if_true,Hk,if_false];exact r) s1⟩
  ·have e:decide (V.str w=V.str "less")=false:=decide_eq_false fun z=>hw (V.str.inj z)
   rw [e]
   refine cq ⟨_,rfl,_,rfl,?_⟩
   cases side with
   | true=>exact cD ⟨_,rfl,_,rfl,p,n,lo,hi,rfl,hp,fun v H1 r s1=>q v H1 (by simp only [dM,oR,if_neg hw,if_true];exact r) s1⟩
   | false=>exact cq ⟨_,rfl,_,rfl,p,n,lo,hi,rfl,hp,fun v H1 r s1=>q v H1 (by simp only [dM,oR,if_neg hw,Hk,if_false];exact r) s1⟩
theorem wu {f:Addr} {fd:FuncData} (F:bS K "facts_of" "facts_of" hR f fd) (Z:Bl mg) {aA:Addr} (GA:jF K mg aA)  : bh P w K mg base bQ 1 f fd ["stretches"] (kQ aA):=by
 refine F.ok (k:=0) wo (fun vs H Q E h=>?_) (fun cdv A outer s H vs Q E hr h=>?_)
 ·obtain⟨d,kvs,ks,T,rfl,_⟩:=h
  rfl
 ·obtain⟨d,kvs,ks,T,rfl,hd,tb,hl,q⟩:=h
  refine⟨_,(av (aC (bA bu rfl Z.tuple cb (aa (fR ["name"] ["stretches"] [0] rfl (wM (bb (ve rfl) rfl Z.sorted kN (aa (pv 0) af))) rfl (by decide +kernel) (by decide +kernel) (by decide +kernel) ⟨⟨rfl,.inl rfl,rfl⟩,True.intro⟩ (fun _ _ _ _=>(aG (i:=0) (show ((["name"]:List Str)++(["stretches"]:List Str)).Nodup by decide +kernel) rfl (Gf rfl) (hf:=GO rfl))) (fun _ _ _ _=>(rH (aI (Ef (aA:=aA) hr.units GA) (rN (dn hr) (pv 1) (pv 0) (fun _ _=>rfl)) (iA (v:=.ref aA) rfl GA.tD rfl) (aQ _)))) (fun _ _ _ _=>(bx (aa (pv 0) (aa (rN (dn hr) (pv 1) (pv 0) (fun _ _=>rfl)) af))))) af)))),?_⟩
  refine⟨_,rfl,d,kvs,ks,rfl,hd,tb.keys,hl,fun l ss hp hs hn=>?_⟩
  have srt:kP ss:=⟨tK hs,hp.nodup_iff.mpr tb.nd⟩
  have hl1:(upd H l (.lst (ss.map V.str))) l=some (.lst (ss.map V.str)):=ae
  have s1:ar H (upd H l (.lst (ss.map V.str))):=ar.new hn
  have hssl:ss.length<64:=by rw [hp.length_eq];exact hl
  generalize (upd H l (.lst (ss.map V.str)))=H1 at hl1 s1
  refine⟨l,rfl,⟨_,aY.of hl1⟩,fun acc na=>?_⟩
  refine w6 (K:=K) (a:=l) (xs:=ss.map V.str) (fun i ys Ge H'=>∃c:Option V,Ge=[c,some (.ref d)]/\br H' ys (((ss.take i).filter fun x=>!decide (T x=fi)).map (dF T))/\H' acc=some (.lst ys)/\ar H1 H') ?_ ?_ ?_ ?_
  ·exact⟨none,rfl,.nil,ae,ar.new na⟩
  ·rintro i ys Ge H2 hi ⟨c,rfl,r,ha,s2⟩
   refine⟨aY.of (s2 _ _ hl1),ha,?_⟩
   have h1:=r.len
   rw [Gg] at h1
   have h2:=HL (fun x=>!decide (T x=fi)) (ss.take i)
   have h3:=List.length_take_le i ss
   have h4:(ss.take i).length<=ss.length:=by rw [G9];omega
   exact bF (by omega)
  ·rintro i x ys Ge H2 hi ⟨c,rfl,r,ha,s2⟩
   obtain⟨y,hy,rfl⟩:∃y,ss[i]?=some y/\x=V.str y:=by
    rw [GI] at hi
    cases e:ss[i]? with
    | none=>rw [e] at hi;cases hi
    | some k=>rw [e] at hi;exact⟨k,rfl,(GL.inj hi).symm⟩
   have hym:y∈ks:=hp.mem_iff.mp (GJ hy)
   have tk:ss.take (i+1)=ss.take i++[y]:=by rw [G1,hy];rfl
   obtain⟨v,ev,sv,_⟩:∃v,cX kvs (Sum.inr y)=some v/\SV aA H v (T y)/\y∈ks:=by
    rcases tb.val y with ⟨_,_,c⟩ | h
    ·exact absurd hym c
    ·exact h
   have sv2:SV aA H2 v (T y):=sv.bp fun p xs e=>s2 _ _ (s1 _ _ e)
   have hd2:H2 d=some (.dK kvs):=s2 _ _ (s1 _ _ hd)
   have dg:dU H2 d (.str y) (some v):=by
    have:=dU.k (k:=Sum.inr y) hd2
    rw [ev] at this
    exact this
   refine dB ?_
   refine⟨_,rfl,_,rfl,d,v,rfl,dg,T y,sv2,rfl,_,rfl,?_⟩
   by_cases hT:T y=fi
   ·refine aU (by rw [decide_eq_true hT];rfl) ?_
    refine⟨_,rfl,?_,ha,s2⟩
    rw [tk,Iz,IH (by rw [decide_eq_true hT];decide),List.filter_nil,HF]
    exact r
   ·refine bZ (by rw [decide_eq_false hT];rfl) ?_
    refine⟨_,rfl,_,rfl,_,rfl,d,v,rfl,dg,ln2,fun t nt=>?_⟩
    have s3:=ar.new (o:=.tup [.str y,v]) nt
    have ht:(upd H2 t (.tup [.str y,v])) t=some (.tup [.str y,v]):=ae
    generalize (upd H2 t (.tup [.str y,v]))=H3 at s3 ht
    have sh:SH H3 v (T y):=by
     rcases sv2 with h | ⟨_,h⟩
     ·exact h.bp fun p xs e=>s3 _ _ e
     ·exact absurd h hT
    have ha3:=s3 _ _ ha
    refine⟨ha3,_,rfl,?_,ae,(s2.trans s3).put na⟩
    rw [tk,Iz,IW (by rw [decide_eq_false hT];rfl),List.filter_nil,Gz]
    refine br.app ((r.same s3 (ou T _)).put ha3 (ou T _)) ?_
    refine aX.bp (H:=H3) (fun p zs e=>by rw [ai (bB e ha3 (by intro z;cases z))];exact e) (.tup ht (.cons (.str y) (.cons sh.rd .nil))) ?_
    have:=ou T [y]
    simpa [cJ] using this
  ·rintro ys Ge H2 ⟨c,rfl,r,ha,s2⟩
   rw [Gg,G7] at r
   refine⟨acc,ys,rfl,.inl ⟨aY.of ha,fun t nt=>?_⟩⟩
   refine q _ _ ⟨t,ys,_,rfl,ae,srt.filter _,fun x=>?_,r.same (ar.new nt) (ou T _)⟩ ((s1.trans s2).trans (ar.new nt))
   rw [HD]
   constructor
   ·rintro⟨_,h⟩ e
    rw [decide_eq_true e] at h
    cases h
   ·intro h
    refine⟨?_,by rw [decide_eq_false h];rfl⟩
    rcases tb.val x with ⟨_,a,_⟩ | ⟨_,_,_,a⟩
    ·exact absurd a h
    ·exact hp.mem_iff.mpr a
theorem BI {f:Addr} {fd:FuncData} (F:bS K "known" "known" jZ f fd) (Z:Bl mg) {aA:Addr} (GA:jF K mg aA)  : bh P w K mg base bQ 1 f fd ["facts", "name"] (so aA):=by
 refine F.ok (k:=0) BF (fun vs H Q E h=>?_) (fun cdv A outer s H vs Q E hr h=>?_)
 ·obtain⟨fv,x,T,rfl,_⟩:=h
  rfl
 ·obtain⟨fv,x,T,rfl,hf,q⟩:=h
  refine⟨_,(av (aC (fQ (dn hr) (bA (iQ rfl) rfl Z.dict oh (aa (pv 0) af)) (pv 1) (iA (v:=.ref aA) rfl GA.tD rfl) ⟨rfl,rfl,rfl,rfl⟩))),?_⟩
  obtain⟨fp,xs,ss,rfl,hfp,srt,hmem,rf⟩:=hf
  obtain⟨kvs,l1,l2,l3,tb⟩:=FV.tb aA srt hmem rf
  refine⟨_,rfl,fp,xs,kvs,rfl,hfp,l1,l2,l3,fun d nd=>?_⟩
  obtain⟨v,ev,sv⟩:=tb.getD x
  exact⟨d,rfl,.inl ⟨kvs,.inl ae⟩,_,rfl,_,v,dU.k (k:=Sum.inr x) ae,ev,q v _ (sv.bp fun p zs e=>ar.new nd _ _ e) (ar.new nd)⟩
theorem uj {f:Addr} {fd:FuncData} (F:bS K "with_known" "with_known" fO f fd) (Z:Bl mg) {aA:Addr} (GA:jF K mg aA) (O_facts_of:Own P w K mg base "facts_of" 1 ["stretches"] (kQ aA)):bh P w K mg base bQ 2 f fd ["facts", "name", "stretch"] (lu aA):=by
 refine F.ok (k:=1) mU (fun vs H Q E h=>?_) (fun cdv A outer s H vs Q E hr h=>?_)
 ·obtain⟨fv,sv,x,T,s,rfl,_⟩:=h
  rfl
 ·obtain⟨fv,sv,x,T,s,rfl,hf,hs,bK,q⟩:=h
  refine⟨_,(ah (aT (i:=3) mU.nd rfl (Gf rfl) (bA (iQ rfl) rfl Z.dict oh (aa (pv 0) af)))
   (ah (fI (dn hr) (pv 3) (pv 1) (pv 2) rfl)
   (av (aC (aB O_facts_of (hr.mono (by decide)) rfl (aa (pv 3) af)))))),?_⟩
  obtain⟨fp,xs,ss,rfl,hfp,srt,hmem,rf⟩:=hf
  obtain⟨kvs,l1,l2,l3,tb⟩:=FV.tb aA srt hmem rf
  have hssl:ss.length<=62:=bK ss (fun x hx=>(hmem x).mp hx) srt.nd
  have kl:kvs.length=ss.length:=by have:=congrArg Hx tb.keys;simpa using this
  refine⟨_,rfl,fp,xs,kvs,rfl,hfp,l1,l2,l3,fun d nd=>?_⟩
  have k1:∀p zs,H p=some (.tup zs)->(upd H d (.dK kvs)) p=some (.tup zs):=fun p zs e=>ar.new nd _ _ e
  refine⟨_,rfl,_,rfl,_,rfl,d,_,rfl,iu.k (k:=Sum.inr x) ae (bF (by omega)),?_⟩
  obtain⟨ks2,t2,k2,m2⟩:=(tb.bp k1).put x (hs.bp k1)
  have hd1:(upd H d (.dK kvs)) d=some (.dK kvs):=ae
  refine⟨_,rfl,d,_,ks2,_,rfl,ae,t2.bp (fun p zs e=>by rw [ai (bB e hd1 (by intro z;cases z))];exact e),(by omega),fun v H2 f2 s2=>q v H2 f2 (((ar.new nd).put nd).trans s2)⟩
theorem BJ {f:Addr} {fd:FuncData} (F:bS K "moved" "moved" j0 f fd) (Z:Bl mg)  : bh P w K mg base bQ 1 f fd ["stretch", "number"] (sf K):=by
 refine F.ok (k:=0) pU (fun vs H Q E h=>?_) (fun cdv A outer s H vs Q E hr h=>?_)
 ·obtain⟨p,s,n,rfl,_⟩:=h
  rfl
 ·obtain⟨p,s,n,rfl,hp,q⟩:=h
  refine⟨_,(ah (cV (pv 0) (cU rfl (aR (aG (i:=2) pU.nd rfl (Gf rfl)) (aR (aG (i:=3) pU.nd rfl (Gf rfl)) cI))))
   (av (aC (bx (aa (eB (gG (iL (pv 2))) j8 (bC dm (pv 2) (pv 1))) (aa (eB (gG (iL (pv 3))) j8 (bC dm (pv 3) (pv 1))) af)))))),?_⟩
  obtain⟨lo,hi⟩:=s
  refine⟨_,rfl,p,_,rfl,hp,rfl,_,_,rfl,_,_,rfl,rfl,?_⟩
  cases lo with
  | none =>
   refine⟨_,rfl,_,rfl,cD ?_⟩
   cases hi with
   | none=>exact⟨_,rfl,_,rfl,cD ⟨ln2,fun t nt=>q _ _ ⟨t,rfl,ae⟩ (ar.new nt)⟩⟩
   | some b=>exact⟨_,rfl,_,rfl,cq ⟨_,rfl,_,rfl,_,_,rfl,rfl,ln2,fun t nt=>q _ _ ⟨t,rfl,ae⟩ (ar.new nt)⟩⟩
  | some a =>
   refine⟨_,rfl,_,rfl,cq ⟨_,rfl,_,rfl,_,_,rfl,rfl,?_⟩⟩
   cases hi with
   | none=>exact⟨_,rfl,_,rfl,cD ⟨ln2,fun t nt=>q _ _ ⟨t,rfl,ae⟩ (ar.new nt)⟩⟩
   | some b=>exact⟨_,rfl,_,rfl,cq ⟨_,rfl,_,rfl,_,_,rfl,rfl,ln2,fun t nt=>q _ _ ⟨t,rfl,ae⟩ (ar.new nt)⟩⟩
theorem oC {f:Addr} {fd:FuncData} (F:bS K "stretch_behind" "stretch_behind" dG f fd) (Z:Bl mg) {aA:Addr} (GA:jF K mg aA) (O_moved:Own P w K mg base "moved" 1 ["stretch", "number"] (sf K)):bh P w K mg base bQ 2 f fd ["stretches", "deed"] (mw aA):=by
  refine F.ok (k:=1) jL (fun vs H Q E h=>?_) (fun cdv A outer s H vs Q E hr h=>?_)
  . obtain⟨d,w,kvs,ks,T,dd,rfl,_⟩:=h
    rfl
  . obtain⟨d,w,kvs,ks,T,dd,rfl,hd,tb,hw,q⟩:=h
    refine⟨_,(ah (cG (y3 (i:=2) (j:=3) rfl jL.nd rfl rfl (by decide) rfl rfl (aa (aF aK (pv 1) ao (fun _ _=>rfl)) (aa (aF aK (pv 1) ao (fun _ _=>rfl)) af)) rfl))
      (ah (bw (aI bP (pv 2) bc (aQ _))
      (av (aC (bx (aa (aF aK (pv 1) ao (fun _ _=>rfl)) (aa (aF aK (pv 1) ao (fun _ _=>rfl)) af)))))
      bf)
      (ah (bw (aI bP (pv 2) bc (aQ _))
      (av (aC (fQ (dn hr) (pv 0) (aF aK (pv 1) ao (fun _ _=>rfl)) (iA (v:=.ref aA) rfl GA.tD rfl) ⟨rfl,rfl,rfl,rfl⟩)))
      bf)
      (ah (bw (aI bP (pv 2) bc (aQ _))
      (av (aC (aB O_moved (hr.mono (by decide)) rfl (aa (fQ (dn hr) (pv 0) (pv 3) (iA (v:=.ref aA) rfl GA.tD rfl) ⟨rfl,rfl,rfl,rfl⟩) (aa (aF aK (pv 1) ao (fun _ _=>rfl)) af)))))
      bf)
      (ah (bw (aI bP (pv 2) bc (aQ _))
      (av (aC (iA (v:=.ref aA) rfl GA.tD rfl)))
      bf)
      (av (aC (fQ (dn hr) (pv 0) (pv 3) (iA (v:=.ref aA) rfl GA.tD rfl) ⟨rfl,rfl,rfl,rfl⟩)))))))),?_⟩
    cases dd
    case put x n =>
      refine⟨fun σ' H'=>σ' = [some (.ref d),some (.ref w),some (.str "put"),some (.str x)]/\H=H',⟨_,rfl,w,_,0,_,rfl,rfl,ay.of hw,bM,_,rfl,w,_,1,_,rfl,rfl,ay.of hw,cW,_,_,rfl,rfl,rfl⟩,?_⟩
      rintro σ' H' ⟨rfl,rfl⟩
      refine⟨_,rfl,rfl,_,rfl,?_⟩
      refine bZ (show decide (V.str "put" = V.str "put")=true by decide +kernel) ?_
      exact⟨_,rfl,w,_,2,_,rfl,rfl,ay.of hw,at2,_,rfl,w,_,2,_,rfl,rfl,ay.of hw,at2,ln2,fun t nt=>q _ _ (.inl ⟨t,rfl,ae⟩) (ar.new nt)⟩
    case copy x y =>
      refine⟨fun σ' H'=>σ' = [some (.ref d),some (.ref w),some (.str "copy"),some (.str x)]/\H=H',⟨_,rfl,w,_,0,_,rfl,rfl,ay.of hw,bM,_,rfl,w,_,1,_,rfl,rfl,ay.of hw,cW,_,_,rfl,rfl,rfl⟩,?_⟩
      rintro σ' H' ⟨rfl,rfl⟩
      refine⟨_,rfl,rfl,_,rfl,?_⟩
      refine aU (show decide (V.str "copy" = V.str "put")=false by decide +kernel) ?_
      refine⟨_,rfl,rfl,_,rfl,?_⟩
      refine bZ (show decide (V.str "copy" = V.str "copy")=true by decide +kernel) ?_
      obtain⟨v,ev,sv⟩:=tb.getD y
      exact⟨_,rfl,d,rfl,.inl ⟨kvs,.inl hd⟩,_,rfl,w,_,2,_,rfl,rfl,ay.of hw,at2,_,v,dU.k (k:=Sum.inr y) hd,ev,q _ _ sv (ar.refl H)⟩
    case add x n =>
      refine⟨fun σ' H'=>σ' = [some (.ref d),some (.ref w),some (.str "add"),some (.str x)]/\H=H',⟨_,rfl,w,_,0,_,rfl,rfl,ay.of hw,bM,_,rfl,w,_,1,_,rfl,rfl,ay.of hw,cW,_,_,rfl,rfl,rfl⟩,?_⟩
      rintro σ' H' ⟨rfl,rfl⟩
      refine⟨_,rfl,rfl,_,rfl,?_⟩
      refine aU (show decide (V.str "add" = V.str "put")=false by decide +kernel) ?_
      refine⟨_,rfl,rfl,_,rfl,?_⟩
      refine aU (show decide (V.str "add" = V.str "copy")=false by decide +kernel) ?_
      refine⟨_,rfl,rfl,_,rfl,?_⟩
      refine bZ (show decide (V.str "add" = V.str "add")=true by decide +kernel) ?_
      obtain⟨v,ev,sv⟩:=tb.getD x
      obtain⟨qa,rfl,hqa⟩:=sv.sq GA
      exact⟨_,rfl,d,rfl,.inl ⟨kvs,.inl hd⟩,_,rfl,_,_,dU.k (k:=Sum.inr x) hd,ev,_,rfl,w,_,2,_,rfl,rfl,ay.of hw,at2,qa,T x,n,rfl,hqa,fun v H' sh s1=>q _ _ (.inl sh) s1⟩
    case read x =>
      refine⟨fun σ' H'=>σ' = [some (.ref d),some (.ref w),some (.str "read"),some (.str x)]/\H=H',⟨_,rfl,w,_,0,_,rfl,rfl,ay.of hw,bM,_,rfl,w,_,1,_,rfl,rfl,ay.of hw,cW,_,_,rfl,rfl,rfl⟩,?_⟩
      rintro σ' H' ⟨rfl,rfl⟩
      refine⟨_,rfl,rfl,_,rfl,?_⟩
      refine aU (show decide (V.str "read" = V.str "put")=false by decide +kernel) ?_
      refine⟨_,rfl,rfl,_,rfl,?_⟩
      refine aU (show decide (V.str "read" = V.str "copy")=false by decide +kernel) ?_
      refine⟨_,rfl,rfl,_,rfl,?_⟩
      refine aU (show decide (V.str "read" = V.str "add")=false by decide +kernel) ?_
      refine⟨_,rfl,rfl,_,rfl,?_⟩
      refine bZ (show decide (V.str "read" = V.str "read")=true by decide +kernel) ?_
      exact q _ _ (.inr ⟨rfl,rfl⟩) (ar.refl H)
    case tell x =>
      refine⟨fun σ' H'=>σ' = [some (.ref d),some (.ref w),some (.str "tell"),some (.str x)]/\H=H',⟨_,rfl,w,_,0,_,rfl,rfl,ay.of hw,bM,_,rfl,w,_,1,_,rfl,rfl,ay.of hw,cW,_,_,rfl,rfl,rfl⟩,?_⟩
      rintro σ' H' ⟨rfl,rfl⟩
      refine⟨_,rfl,rfl,_,rfl,?_⟩
      refine aU (show decide (V.str "tell" = V.str "put")=false by decide +kernel) ?_
      refine⟨_,rfl,rfl,_,rfl,?_⟩
      refine aU (show decide (V.str "tell" = V.str "copy")=false by decide +kernel) ?_
      refine⟨_,rfl,rfl,_,rfl,?_⟩
      refine aU (show decide (V.str "tell" = V.str "add")=false by decide +kernel) ?_
      refine⟨_,rfl,rfl,_,rfl,?_⟩
      refine aU (show decide (V.str "tell" = V.str "read")=false by decide +kernel) ?_
      obtain⟨v,ev,sv⟩:=tb.getD x
      exact⟨_,rfl,d,rfl,.inl ⟨kvs,.inl hd⟩,_,rfl,_,v,dU.k (k:=Sum.inr x) hd,ev,q _ _ sv (ar.refl H)⟩
theorem Ak {f:Addr} {fd:FuncData} (F:bS K "behind" "behind" jc f fd) (Z:Bl mg) {aA:Addr} (GA:jF K mg aA) (O_stretch_behind:Own P w K mg base "stretch_behind" 2 ["stretches", "deed"] (mw aA)) (O_facts_of:Own P w K mg base "facts_of" 1 ["stretches"] (kQ aA)):bh P w K mg base bQ 3 f fd ["facts", "deeds"] pM:=by
 refine F.ok (k:=2) n9 (fun vs H Q E h=>?_) (fun cdv A outer s H vs Q E hr h=>?_)
 ·obtain⟨fv,p,ws,ds,T,m,rfl,_⟩:=h
  rfl
 ·obtain⟨fv,p,ws,ds,T,m,rfl,hf,hp,r,bK,hm,q⟩:=h
  refine⟨_,(ah (aT (i:=2) n9.nd rfl (Gf rfl) (bA (iQ rfl) rfl Z.dict oh (aa (pv 0) af)))
   (ah (fY PassesOwn.never rfl (fX (pv 1)) (aG (i:=3) n9.nd rfl (Gf rfl))
   (av (fI (dn hr) (pv 2) (aF aK (pv 3) ao (fun _ _=>rfl)) (aB O_stretch_behind (hr.mono (by decide)) rfl (aa (pv 2) (aa (pv 3) af))) rfl)))
   (av (aC (aB O_facts_of (hr.mono (by decide)) rfl (aa (pv 2) af)))))),?_⟩
  obtain⟨fp,xs,ss,rfl,hfp,srt,hmem,rf⟩:=hf
  obtain⟨kvs,l1,l2,l3,tb⟩:=FV.tb aA srt hmem rf
  have hssl:ss.length<=m:=bK ss (fun x hx=>(hmem x).mp hx) srt.nd
  refine⟨_,rfl,fp,xs,kvs,rfl,hfp,l1,l2,l3,fun d nd=>?_⟩
  have tb1:Tb aA (upd H d (.dK kvs)) kvs ss T:=tb.bp fun p xs e=>ar.new nd _ _ e
  refine⟨_,rfl,p,rfl,⟨_,ay.of (ar.new nd _ _ hp)⟩,iX (K:=K) (a:=p) (xs:=ws) (fun i Gd H'=>∃(c:Option V) (kvs':List (Key×V)) (ks':List Str),Gd=[some (.ref fp),some (.ref p),some (.ref d),c]/\H' d=some (.dK kvs')/\Tb aA H' kvs' ks' (eF T (ds.take i))/\ks'.length<=m+i/\ar H H') ?_ ?_ ?_ ?_⟩
  ·exact⟨none,kvs,ss,rfl,ae,tb1,hssl,ar.new nd⟩
  ·rintro i Gd H1 hi ⟨c,kvs1,ks1,rfl,h1,t1,k1,s1⟩
   exact ay.of (s1 _ _ hp)
  ·rintro i x Gd H1 hi ⟨c,kvs1,ks1,rfl,h1,t1,k1,s1⟩
   have hil:i<ds.length:=by
    have:=(GQ.mp hi).1
    rw [r.len,Gg] at this
    exact this
   have hdi:ds[i]?=some ds[i]:=by simp [hil]
   generalize ds[i]=dd at hdi
   obtain⟨v,hv,rd⟩:=r.get (i:=i) (d:=dI dd) (by rw [GI,hdi];rfl)
   rw [hi] at hv
   cases hv
   obtain⟨dp,rfl,hdp⟩:=lM rd
   have tk:eF T (ds.take (i+1))=Bt (eF T (ds.take i)) dd:=by
    unfold eF
    rw [G1,hdi,Option.toList_some,Ic]
    rfl
   refine dB ?_
   refine⟨_,rfl,_,rfl,d,dp,kvs1,ks1,_,dd,rfl,h1,t1,s1 _ _ hdp,fun v H2 sv s2=>?_⟩
   have h2:=s2 _ _ h1
   have kl:kvs1.length=ks1.length:=by have:=congrArg Hx t1.keys;simpa using this
   refine⟨_,rfl,_,rfl,dp,_,1,_,rfl,rfl,ay.of (s2 _ _ (s1 _ _ hdp)),AZ dd,d,_,rfl,iu.k (k:=Sum.inr (qE dd)) h2 (bF (by omega)),?_⟩
   obtain⟨ks2,t2,k2,_⟩:=(t1.bp fun p xs e=>s2 _ _ e).put (qE dd) sv
   refine⟨_,_,ks2,rfl,ae,?_,by omega,(s1.trans s2).put nd⟩
   rw [tk]
   exact t2.bp fun p xs e=>by rw [ai (bB e h2 (by intro z;cases z))];exact e
  ·rintro Gd H1 ⟨c,kvs1,ks1,rfl,h1,t1,k1,s1⟩
   have hwl:ws.length=ds.length:=by rw [r.len,Gg]
   rw [hwl,G7] at t1
   refine⟨_,rfl,d,kvs1,ks1,_,rfl,h1,t1,(by omega),fun v H2 f2 s2=>q v H2 f2 (s1.trans s2)⟩
theorem qY {f:Addr} {fd:FuncData} (F:bS K "known_beyond" "known_beyond" eM f fd) (Z:Bl mg) {aA:Addr} (GA:jF K mg aA) (O_ways_on:Own P w K mg base "ways_on" 3 ["end"] jv) (O_known:Own P w K mg base "known" 1 ["facts", "name"] (so aA)) (O_part_of:Own P w K mg base "part_of" 3 ["stretch", "word", "number", "side"] (ox K)) (O_with_known:Own P w K mg base "with_known" 2 ["facts", "name", "stretch"] (lu aA)):bh P w K mg base bQ 4 f fd ["facts", "end"] (pP aA):=by
  refine F.ok (k:=3) dt (fun vs H Q E h=>?_) (fun cdv A outer s H vs Q E hr h=>?_)
  . obtain⟨fv,ea,T,e,rfl,_⟩:=h
    rfl
  . obtain⟨fv,ea,T,e,rfl,hf,he,bK,q⟩:=h
    refine⟨_,(ah (aT (i:=2) dt.nd rfl (Gf rfl) (aB O_ways_on (hr.mono (by decide)) rfl (aa (pv 1) af)))
      (ah (bw (aI gU (bb aV rfl Z.len bT (aa (pv 2) af)) ao (aQ _))
      (av (aC (bA bu rfl Z.tuple cb (aa (fR ["way"] ["facts"] [0] rfl (fX (pv 2)) rfl (by decide +kernel) (by decide +kernel) (by decide +kernel) ⟨⟨rfl,.inl rfl,rfl⟩,True.intro⟩ (fun _ _ _ _=>(aG (i:=0) (show ((["way"]:List Str)++(["facts"]:List Str)).Nodup by decide +kernel) rfl (Gf rfl) (hf:=GO rfl))) (fun _ _ _ _=>gf) (fun _ _ _ _=>(pv 1))) af))))
      bf)
      (ah (cG (cV (bx (aa (aF aK (pv 1) ao (fun _ _=>rfl)) (aa (aF aK (pv 1) ao (fun _ _=>rfl)) (aa (aF aK (pv 1) ao (fun _ _=>rfl)) af)))) (cU rfl (aR (aG (i:=3) dt.nd rfl (GO rfl)) (aR (aG (i:=4) dt.nd rfl (GO rfl)) (aR (aG (i:=5) dt.nd rfl (GO rfl)) cI))))))
      (ah (aT (i:=6) dt.nd rfl (GO rfl) (aB O_known (hr.mono (by decide)) rfl (aa (pv 0) (aa (pv 4) af))))
      (ah (md (i:=7) ["side"] ["stretch", "word", "number"] [6,3,5] rfl dt.nd rfl rfl rfl (fX (bx (aa iK (aa iK af)))) rfl (by decide +kernel) (by decide +kernel) (by decide +kernel) ⟨⟨rfl,.inl rfl,rfl⟩,⟨⟨rfl,.inl rfl,rfl⟩,⟨⟨rfl,.inl rfl,rfl⟩,True.intro⟩⟩⟩ (fun _ _ _ _=>(aG (i:=0) (show ((["side"]:List Str)++(["stretch", "word", "number"]:List Str)).Nodup by decide +kernel) rfl (Gf rfl) (hf:=GO rfl))) (fun _ _ _ _=>gf) (fun _ _ _ _=>(aB O_part_of (hr.mono (by decide)) rfl (aa (pv 1) (aa (pv 2) (aa (pv 3) (aa (pv 0) af)))))))
      (av (aC (bA bu rfl Z.tuple cb (aa (fR ["part"] ["facts", "name"] [0,4] rfl (wM (pv 7)) rfl (by decide +kernel) (by decide +kernel) (by decide +kernel) ⟨⟨rfl,.inl rfl,rfl⟩,⟨⟨rfl,.inl rfl,rfl⟩,True.intro⟩⟩ (fun _ _ _ _=>(aG (i:=0) (show ((["part"]:List Str)++(["facts", "name"]:List Str)).Nodup by decide +kernel) rfl (Gf rfl) (hf:=GO rfl))) (fun _ _ _ _=>gf) (fun _ _ _ _=>(eB (gG (iL (pv 0))) j8 (aB O_with_known (hr.mono (by decide)) rfl (aa (pv 1) (aa (pv 2) (aa (pv 0) af))))))) af))))))))),?_⟩
    refine⟨_,rfl,ea,e,rfl,he,fun wt H1 hw s1=>?_⟩
    have he1:=s1 _ _ he
    have hf1:=hf.same s1
    refine⟨_,rfl,wt,_,rfl,.inr (ay.of hw),_,_,rfl,rfl,_,rfl,?_⟩
    by_cases hl:(aN e).length<2
    . refine bZ (decide_eq_true (by rw [Gg];omega)) ?_
      refine⟨_,rfl,wt,rfl,⟨_,ay.of hw⟩,fun acc na=>?_⟩
      refine nh (K:=K) (a:=wt) (xs:=(aN e).map fun k=>V.int (k:Nat)) (fun i zs Ge H'=>∃c:Option V,Ge=[c,some fv]/\zs=Io i fv/\H' acc=some (.lst zs)/\ar H1 H') ?_ ?_ ?_ ?_
      . exact⟨none,rfl,rfl,ae,ar.new na⟩
      . rintro i zs Ge H2 hi ⟨c,rfl,rfl,ha,s2⟩
        refine⟨ay.of (s2 _ _ hw),ha,?_⟩
        rw [Ip]
        rw [Gg] at hi
        exact bF (by omega)
      . rintro i x zs Ge H2 hi ⟨c,rfl,rfl,ha,s2⟩
        refine dB ?_
        refine lh ?_
        refine cD ?_
        refine⟨_,rfl,ha,_,rfl,?_,ae,s2.put na⟩
        rw [<-List.replicate_succ']
      . rintro zs Ge H2 ⟨c,rfl,rfl,ha,s2⟩
        rw [Gg] at ha
        refine⟨acc,_,rfl,.inl ⟨aY.of ha,fun t nt=>?_⟩⟩
        refine q t _ _ ae ?_ ((s1.trans s2).trans (ar.new nt))
        rw [C7 hl]
        exact xB (hf1.same (s2.trans (ar.new nt))) _
    . refine aU (decide_eq_false (by rw [Gg];omega)) ?_
      cases e with
      | stop=>exact absurd (by show 0<2;omega) hl
      | go p=>exact absurd (by show 1<2;omega) hl
      | cE b x n p r =>
        refine⟨fun σ' H'=>σ' = [some fv,some (.ref ea),some (.ref wt),some (.str (wT b)),some (.str x),some (.int n),none,none]/\ar H1 H',?_,?_⟩
        . refine⟨_,rfl,ea,_,0,_,rfl,rfl,ay.of he1,bM,_,rfl,ea,_,1,_,rfl,rfl,ay.of he1,cW,_,rfl,ea,_,2,_,rfl,rfl,ay.of he1,at2,uP,fun tt htt=>?_⟩
          exact⟨tt,_,rfl,ay.of ae,rfl,_,_,rfl,_,_,rfl,_,_,rfl,rfl,rfl,ar.new htt⟩
        rintro σ' H2 ⟨rfl,s2⟩
        refine⟨_,rfl,_,rfl,fv,x,T,rfl,hf1.same s2,fun sv H3 hsv s3=>?_⟩
        obtain⟨sp,rfl,hsp⟩:=hsv.sq GA
        have s13:=s2.trans s3
        refine⟨ln2,fun st hst=>⟨st,rfl,⟨_,ay.of ae⟩,fun acc na=>?_⟩⟩
        have s4:=ar.new (o:=.tup [.bl true,.bl false]) hst
        have hst4:(upd H3 st (.tup [.bl true,.bl false])) st=some (.tup [.bl true,.bl false]):=ae
        generalize (upd H3 st (.tup [.bl true,.bl false]))=H4 at s4 hst4 na
        refine nh (K:=K) (a:=st) (xs:=[.bl true,.bl false]) (fun i zs Ge H'=>∃c:Option V,Ge=[c,some (.ref sp),some (.str (wT b)),some (.int n)]/\oX H' zs ([ij T b x n true,ij T b x n false].take i)/\H' acc=some (.lst zs)/\ar H4 H') ?_ ?_ ?_ ?_
        . exact⟨none,rfl,.nil,ae,ar.new na⟩
        . rintro i zs Ge H5 hi ⟨c,rfl,rv,ha,s5⟩
          refine⟨ay.of (s5 _ _ hst4),ha,?_⟩
          have h1:=Paired.length rv
          rw [G9] at h1
          exact bF (by rw [h1];exact Gy (Nat.min_le_right _ _) (by show 2<=1000;decide))
        . rintro i y zs Ge H5 hi ⟨c,rfl,rv,ha,s5⟩
          obtain⟨side,rfl,hsd⟩:∃side:Bool,y=.bl side/\[ij T b x n true,ij T b x n false][i]?=some (ij T b x n side):=by
            match i,hi with
            | 0,hi=>cases hi;exact⟨true,rfl,rfl⟩
            | 1,hi=>cases hi;exact⟨false,rfl,rfl⟩
            | i+2,hi=>simp at hi
          refine dB ?_
          refine lh ?_
          refine cD ?_
          refine⟨_,rfl,_,rfl,_,rfl,_,rfl,sp,wT b,n,side,_,_,rfl,hsp.same (s4.trans s5),fun v H6 r6 s6=>?_⟩
          have ha6:=s6 _ _ ha
          refine⟨ha6,_,rfl,?_,ae,(s5.trans s6).put na⟩
          rw [G1,hsd]
          exact g9 ((rv.same s6).put ha6) (.cons (RV.put r6 ha6) .nil)
        . rintro zs Ge H5 ⟨c,rfl,rv,ha,s5⟩
          have s15:=s13.trans (s4.trans s5)
          have rv:oX H5 zs [ij T b x n true,ij T b x n false]:=rv
          have rvl:zs.length=2:=Paired.length rv
          refine⟨_,rfl,acc,rfl,⟨_,aY.of ha⟩,fun ac2 na2=>?_⟩
          refine w6 (K:=K) (a:=acc) (xs:=zs) (fun i us Ge H'=>∃c:Option V,Ge=[c,some fv,some (.str x)]/\mT H' us ((jI T (.cE b x n p r)).take i)/\H' ac2=some (.lst us)/\ar H5 H') ?_ ?_ ?_ ?_
          . exact⟨none,rfl,.nil,ae,ar.new na2⟩
          . rintro i us Ge H6 hi ⟨c,rfl,bv,ha2,s6⟩
            refine⟨aY.of (s6 _ _ ha),ha2,?_⟩
            have h1:=Paired.length bv
            rw [G9] at h1
            exact bF (by rw [h1];exact Gy (Nat.min_le_right _ _) (by show 2<=1000;decide))
          . rintro i y us Ge H6 hi ⟨c,rfl,bv,ha2,s6⟩
            obtain⟨rs,hrs,hry⟩:=kW rv hi
            have hb:(jI T (.cE b x n p r))[i]?=some (rs.map (gC T x)):=by
              show ([ij T b x n true,ij T b x n false].map fun z:Rs=>Option.map (gC T x) z)[i]?=_
              rw [GI,hrs];rfl
            refine dB ?_
            refine lh ?_
            refine cD ?_
            cases rs with
            | none =>
              cases (show y=V.bL from hry)
              refine⟨_,rfl,_,rfl,cD ?_⟩
              refine⟨ha2,_,rfl,?_,ae,s6.put na2⟩
              rw [G1,hb]
              refine g9 (bv.bp fun p zs e=>?_) (.cons rfl .nil)
              rw [ai (bB e ha2 (by intro z;cases z))];exact e
            | some s =>
              have hsv6:SV aA H6 y s:=RV.sv (hry.same s6)
              obtain⟨yp,rfl,hyp⟩:∃yp,y=.ref yp/\True:=by
                obtain⟨a1,b1⟩:=s
                obtain⟨yp,e,_⟩:=hry
                exact⟨yp,e,trivial⟩
              refine⟨_,rfl,_,rfl,cq ?_⟩
              refine⟨_,rfl,_,rfl,_,rfl,fv,.ref yp,x,T,s,rfl,hf1.same (s13.trans (s4.trans (s5.trans s6))),hsv6,bK,fun v H7 f7 s7=>?_⟩
              have ha7:=s7 _ _ ha2
              refine⟨ha7,_,rfl,?_,ae,(s6.trans s7).put na2⟩
              rw [G1,hb]
              have kt:∀p zs,H7 p=some (.tup zs)->(upd H7 ac2 (.lst (us++[v]))) p=some (.tup zs):=fun p zs e=>by rw [ai (bB e ha7 (by intro z;cases z))];exact e
              exact g9 ((bv.same s7).bp kt) (.cons (FV.bp f7 kt) .nil)
          . rintro us Ge H6 ⟨c,rfl,bv,ha2,s6⟩
            rw [rvl] at bv
            refine⟨ac2,_,rfl,.inl ⟨aY.of ha2,fun t nt=>?_⟩⟩
            exact q t _ _ ae (mT.same (show mT H6 us (jI T (.cE b x n p r)) from bv) (ar.new nt)) ((s1.trans (s15.trans s6)).trans (ar.new nt))
theorem BK {f:Addr} {fd:FuncData} (F:bS K "leads" "leads" j1 f fd) (Z:Bl mg) (O_known_beyond:Own P w K mg base "known_beyond" 4 ["facts", "end"] (pP aA)) (O_ways_on:Own P w K mg base "ways_on" 3 ["end"] jv):bh P w K mg base bQ 5 f fd ["facts", "end"] (sx aA):=by
  refine F.ok (k:=4) vQ (fun vs H Q E h=>?_) (fun cdv A outer s H vs Q E hr h=>?_)
  . obtain⟨fv,ea,T,e,rfl,_⟩:=h
    rfl
  . obtain⟨fv,ea,T,e,rfl,hf,he,bK,q⟩:=h
    refine⟨_,(ah (aT (i:=2) vQ.nd rfl (Gf rfl) (aB O_known_beyond (hr.mono (by decide)) rfl (aa (pv 0) (aa (pv 1) af))))
      (av (aC (bA bu rfl Z.tuple cb (aa (fR ["way", "there"] [] [] rfl (zJ rfl Z.zip (aa (aB O_ways_on (hr.mono (by decide)) rfl (aa (pv 1) af)) (aa (pv 2) af))) rfl (by decide +kernel) (by decide +kernel) (by decide +kernel) True.intro (fun _ _ _ _=>(w9 (K:=K) (n:=2) rfl (cU (n:=2) rfl (aR (aG (i:=0) (show ((["way", "there"]:List Str)++([]:List Str)).Nodup by decide +kernel) rfl (Gf rfl) (hf:=GO rfl)) (aR (aG (i:=1) (show ((["way", "there"]:List Str)++([]:List Str)).Nodup by decide +kernel) rfl (Gf rfl) (hf:=GO rfl)) cI))))) (fun _ _ _ _=>(rH (gG (rp (pv 1))))) (fun _ _ _ _=>(bx (aa (pv 0) (aa (pv 1) af))))) af))))),?_⟩
    refine⟨_,rfl,_,rfl,fv,ea,T,e,rfl,hf,he,bK,fun bt us H1 hb bv s1=>?_⟩
    refine⟨_,rfl,ea,e,rfl,s1 _ _ he,fun wt H2 hw s2=>?_⟩
    have hb2:=s2 _ _ hb
    have bv2:=bv.same s2
    refine⟨_,rfl,wt,bt,rfl,⟨_,ay.of hw⟩,⟨_,ay.of hb2⟩,fun acc na=>?_⟩
    refine zK (K:=K) (a:=wt) (b:=bt) (xs:=(aN e).map fun k=>V.int (k:Nat)) (ys:=us) (fun i zs Ge H'=>∃(c1 c2:Option V),Ge=[c1,c2]/\nQ H' zs ((((aN e).zip (jI T e)).take i).filterMap fun p=>p.2.map fun U=>(p.1,U))/\zs.length<=i/\H' acc=some (.lst zs)/\ar H2 H') ?_ ?_ ?_ ?_
    . exact⟨none,none,rfl,.nil,Gi _,ae,ar.new na⟩
    . rintro i zs Ge H3 hi ⟨c1,c2,rfl,pv,hz,ha,s3⟩
      refine⟨ay.of (s3 _ _ hw),ay.of (s3 _ _ hb2),ha,?_⟩
      have h1:i<=(aN e).length:=by rw [Gg] at hi;omega
      have h2:(aN e).length<=2:=by cases e <;> (show _<=2) <;> simp [aN]
      exact bF (by omega)
    . rintro i x y zs Ge H3 u hx hy hu ⟨c1,c2,rfl,pv,hz,ha,s3⟩
      obtain⟨k,hk,rfl⟩:∃k,(aN e)[i]?=some k/\x=V.int (k:Nat):=by
        rw [GI] at hx
        cases z:(aN e)[i]? with
        | none=>rw [z] at hx;cases hx
        | some k=>rw [z] at hx;exact⟨k,rfl,(GL.inj hx).symm⟩
      obtain⟨o,ho,hyo⟩:=kW bv2 hy
      have hnext:=Ab (T:=T) hk ho
      have su:=ar.new (o:=.tup [.int (k:Nat),y]) hu
      have hu4:(upd H3 u (.tup [.int (k:Nat),y])) u=some (.tup [.int (k:Nat),y]):=ae
      generalize (upd H3 u (.tup [.int (k:Nat),y]))=H4 at su hu4
      refine⟨u,_,rfl,ay.of hu4,rfl,_,_,rfl,_,_,rfl,rfl,?_⟩
      refine⟨_,rfl,_,rfl,?_⟩
      cases o with
      | none =>
        cases (show y=V.bL from hyo)
        refine cq ?_
        refine⟨_,_,rfl,?_,GP hz,su _ _ ha,s3.trans su⟩
        rw [hnext]
        simpa using pv.same su
      | some U =>
        obtain⟨yp,zsy,ssy,rfl,_⟩:=id hyo
        refine cD ?_
        refine⟨_,rfl,_,rfl,ln2,fun t nt=>?_⟩
        have s5:=ar.new (o:=.tup [.int (k:Nat),.ref yp]) nt
        have ht:(upd H4 t (.tup [.int (k:Nat),.ref yp])) t=some (.tup [.int (k:Nat),.ref yp]):=ae
        generalize (upd H4 t (.tup [.int (k:Nat),.ref yp]))=H5 at s5 ht
        have ha5:=s5 _ _ (su _ _ ha)
        have kt:∀p ws,H5 p=some (.tup ws)->(upd H5 acc (.lst (zs++[V.ref t]))) p=some (.tup ws):=fun p ws e=>by rw [ai (bB e ha5 (by intro z;cases z))];exact e
        refine⟨ha5,_,_,rfl,?_,(by rw [Gr];show _+1<=_;omega),ae,(s3.trans (su.trans s5)).put na⟩
        rw [hnext]
        exact g9 ((pv.same (su.trans s5)).bp kt) (.cons ⟨t,.ref yp,rfl,kt _ _ ht,FV.bp (FV.same hyo (s3.trans (su.trans s5))) kt⟩ .nil)
    . rintro zs Ge H3 ⟨c1,c2,rfl,pv,hz,ha,s3⟩
      have hm:min ((aN e).map fun k=>V.int (k:Nat)).length us.length=((aN e).zip (jI T e)).length:=by
        rw [List.length_zip,Gg,Paired.length bv2]
      rw [hm,G7] at pv
      refine⟨acc,_,rfl,.inl ⟨aY.of ha,fun t nt=>?_⟩⟩
      exact q t zs _ ae (nQ.same (show nQ H3 zs (dP T e) from pv) (ar.new nt)) (((s1.trans s2).trans s3).trans (ar.new nt))
theorem BL {f:Addr} {fd:FuncData} (F:bS K "start" "start" j2 f fd) (Z:Bl mg) (O_names_of:Own P w K mg base "names_of" 3 ["plan"] nK):bh P w K mg base bQ 4 f fd ["plan"] sy:=by
 refine F.ok (k:=3) BG (fun vs H Q E h=>?_) (fun cdv A outer s H vs Q E hr h=>?_)
 ·obtain⟨plv,ps,xs,m,rfl,_⟩:=h
  rfl
 ·obtain⟨plv,ps,xs,m,rfl,hp,pok,hx,hal,q⟩:=h
  refine⟨_,(av (aC (bA bu rfl Z.tuple cb (aa (fR ["name"] [] [] rfl (fX (aB O_names_of (hr.mono (by decide)) rfl (aa (pv 0) af))) rfl (by decide +kernel) (by decide +kernel) (by decide +kernel) True.intro (fun _ _ _ _=>(aG (i:=0) (show ((["name"]:List Str)++([]:List Str)).Nodup by decide +kernel) rfl (Gf rfl) (hf:=GO rfl))) (fun _ _ _ _=>gf) (fun _ _ _ _=>(bx (aa (pv 0) (aa (bx (aa ao (aa ao af))) af))))) af)))),?_⟩
  refine⟨_,rfl,plv,ps,xs,m,rfl,hp,pok,hx,hal,fun nt ss H1 hnt hperm hsort hsl s1=>?_⟩
  refine⟨nt,rfl,⟨_,ay.of hnt⟩,fun acc na=>?_⟩
  refine nh (K:=K) (a:=nt) (xs:=ss.map V.str) (fun i zs Ge H'=>∃c:Option V,Ge=[c]/\br H' zs ((ss.take i).map fun x=>.tuple [.str x,.tuple [.int 0,.int 0]])/\H' acc=some (.lst zs)/\ar H1 H') ?_ ?_ ?_ ?_
  ·exact⟨none,rfl,.nil,ae,ar.new na⟩
  ·rintro i zs Ge H2 hi ⟨c,rfl,r,ha,s2⟩
   refine⟨ay.of (s2 _ _ hnt),ha,?_⟩
   have h1:=r.len
   rw [Gg,G9] at h1
   exact bF (by omega)
  ·rintro i x zs Ge H2 hi ⟨c,rfl,r,ha,s2⟩
   obtain⟨y,hy,rfl⟩:∃y,ss[i]?=some y/\x=V.str y:=by
    rw [GI] at hi
    cases e:ss[i]? with
    | none=>rw [e] at hi;cases hi
    | some k=>rw [e] at hi;exact⟨k,rfl,(GL.inj hi).symm⟩
   refine dB ?_
   refine lh ?_
   refine cD ?_
   refine⟨_,rfl,ln2,fun t1 n1=>⟨ln2,fun t2 n2=>?_⟩⟩
   have q1:=ar.new (o:=.tup [.int 0,.int 0]) n1
   have q2:=ar.new (o:=.tup [.str y,.ref t1]) n2
   have ha3:=q2 _ _ (q1 _ _ ha)
   have kt:∀p ws,(upd (upd H2 t1 (.tup [.int 0,.int 0])) t2 (.tup [.str y,.ref t1])) p=some (.tup ws)->(upd (upd (upd H2 t1 (.tup [.int 0,.int 0])) t2 (.tup [.str y,.ref t1])) acc (.lst (zs++[V.ref t2]))) p=some (.tup ws):=fun p ws e=>by rw [ai (bB e ha3 (by intro z;cases z))];exact e
   refine⟨ha3,_,rfl,?_,ae,((s2.trans q1).trans q2).put na⟩
   rw [G1,hy,Gz]
   exact (((r.same q1 (iB _)).same q2 (iB _)).bp kt (iB _)).app (.tup (kt _ _ ae) (.cons (.str _) (.cons (.tup (kt _ _ (q2 _ _ ae)) (.cons (.int _) (.cons (.int _) .nil))) .nil)))
  ·rintro zs Ge H2 ⟨c,rfl,r,ha,s2⟩
   rw [Gg,G7] at r
   refine⟨acc,_,rfl,.inl ⟨aY.of ha,fun t ht=>?_⟩⟩
   exact q (.ref t) ss _ (.tup ae (r.same (ar.new ht) (iB _))) hperm hsort ((s1.trans s2).trans (ar.new ht))
theorem qZ {f:Addr} {fd:FuncData} (F:bS K "__init__" "Row.__init__" eN f fd) (Z:Bl mg) {CR:Addr} (TR:sg K CR)  : bh P w K mg base bQ 1 f fd ["self", "first"] (tZ (jS P w CR) (kR CR)):=by
 refine F.ok (k:=0) qV (fun vs H Q E h=>?_) (fun cdv A outer s H vs Q E hr h=>?_)
 ·rcases h with h | h
  ·obtain⟨r,dx,k,d0,rfl,_⟩:=h
   rfl
  ·obtain⟨r,dx,k,rfl,_⟩:=h
   rfl
 ·rcases h with h | h
  ·obtain⟨r,dx,k,d0,rfl,hr0,hk,rd,nl,q⟩:=h
   refine⟨_,(ah (ft (pv 0) (cP (aa (pv 1) af)) rfl)
   (av (ft (pv 0) (BC (vG hr) (uY (pv 1) ao xc) rfl rfl (List.cons_ne_nil _ _) (by show 1<=15;decide)) rfl))),?_⟩
   refine⟨_,rfl,wY,fun m nm=>?_⟩
   have s1:=ar.new (o:=.lst [.ref k]) nm
   have hm1:(upd H m (.lst [.ref k])) m=some (.lst [.ref k]):=ae
   have nrm:r≠m:=aw hr0 nm
   have rd1:=rd.same s1 nl
   generalize (upd H m (.lst [.ref k]))=H1 at s1 hm1 rd1
   have hr1:=s1 _ _ hr0
   refine⟨_,rfl,r,CR,dx,_,rfl,hr1,TR.cl,TR.members,(by show 0<1000;decide),?_⟩
   have kt1:∀p zs,H1 p=some (.tup zs)->∀o,(upd H1 r o) p=some (.tup zs):=fun p zs e o=>by rw [ai (bB e hr1 (by intro z;cases z))];exact e
   refine fun d nd=>?_
   have ndr:r≠d:=fun z=>by rw [<-z,ae] at nd;cases nd
   have nd1:H1 d=none:=by rw [ai ndr.symm] at nd;exact nd
   have ndm:d≠m:=fun z=>by rw [z,hm1] at nd1;cases nd1
   have kt2:∀p zs,H1 p=some (.tup zs)->∀o o',(upd (upd H1 r o) d o') p=some (.tup zs):=fun p zs e o o'=>by rw [ai (aw e nd1)];exact kt1 p zs e o
   refine⟨_,rfl,ae,k,.int 0,d0,rfl,hk,rd1.bp (fun p zs e=>kt2 p zs e _ _) nl,?_⟩
   refine⟨_,rfl,r,CR,dx,_,rfl,(by rw [ai ndr,ai ndr,ae]),TR.cl,TR.places,(by rw [jP];show 1<1000;decide),?_⟩
   refine q m d _ ⟨⟨dx,by rw [ae,jP,tP]⟩,?_,?_,fun p hp=>?_⟩ (fun c o e n=>?_) nm (s1.free nd1)
   ·rw [ai nrm.symm,ai ndm.symm,ai ndm.symm,ai nrm.symm];exact hm1
   ·rw [ai ndr.symm,ae];rfl
   ·rw [Gp.mp hp]
    refine⟨hk,rd1.bp (fun p zs e=>?_) nl⟩
    have hpr:p≠r:=bB e hr1 (by intro z;cases z)
    have hpd:p≠d:=aw e nd1
    rw [ai hpr,ai hpd,ai hpd,ai hpr];exact e
   ·rw [ai n,ai (aw (s1 _ _ e) nd1),ai (aw (s1 _ _ e) nd1),ai n];exact s1 _ _ e
  ·obtain⟨r,dx,k,rfl,hr0,q⟩:=h
   refine⟨_,(ah (ft (pv 0) (cP (aa (pv 1) af)) rfl)
   (av (ft (pv 0) (CN (uY (pv 1) ao xc) rfl rfl (List.cons_ne_nil _ _) (by show 1<=15;decide)) rfl))),?_⟩
   refine⟨_,rfl,wY,fun m nm=>?_⟩
   have s1:=ar.new (o:=.lst [.int (k:Nat)]) nm
   have hm1:(upd H m (.lst [.int (k:Nat)])) m=some (.lst [.int (k:Nat)]):=ae
   have nrm:r≠m:=aw hr0 nm
   generalize (upd H m (.lst [.int (k:Nat)]))=H1 at s1 hm1
   refine⟨_,rfl,r,CR,dx,_,rfl,s1 _ _ hr0,TR.cl,TR.members,(by show 0<1000;decide),?_⟩
   refine fun d nd=>?_
   have ndr:r≠d:=fun z=>by rw [<-z,ae] at nd;cases nd
   have nd1:H1 d=none:=by rw [ai ndr.symm] at nd;exact nd
   have ndm:d≠m:=fun z=>by rw [z,hm1] at nd1;cases nd1
   refine⟨_,rfl,ae,[(Sum.inl (k:Int),.int 0)],rfl,(by show 1<=15;decide),?_⟩
   refine⟨_,rfl,r,CR,dx,_,rfl,(by rw [ai ndr,ai ndr,ae]),TR.cl,TR.places,(by rw [jP];show 1<1000;decide),?_⟩
   refine q m d _ ⟨⟨dx,by rw [ae,jP,tP]⟩,?_,?_⟩ (fun c o e n=>?_) nm (s1.free nd1)
   ·rw [ai nrm.symm,ai ndm.symm,ai ndm.symm,ai nrm.symm];exact hm1
   ·refine⟨_,by rw [ai ndr.symm,ae],?_,?_⟩
    ·exact Gi 1
    ·intro j
     show cX [((Sum.inl (k:Int):Key),V.int 0)] (Sum.inl (j:Int))=_
     by_cases e:j=k
     ·subst e
      rw [dD rfl,if_pos (Gp.mpr rfl)]
      simp
     ·rw [dE (fun z:(Sum.inl (k:Int):Key)=Sum.inl (j:Int)=>e (by have:=Sum.inl.inj z;omega)),if_neg (fun z=>e (Gp.mp z))]
      rfl
   ·rw [ai n,ai (aw (s1 _ _ e) nd1),ai (aw (s1 _ _ e) nd1),ai n];exact s1 _ _ e
theorem q8 {f:Addr} {fd:FuncData} (F:bS K "place_of" "Row.place_of" eO f fd) (Z:Bl mg) {CR:Addr} (TR:sg K CR)  : bh P w K mg base bQ 1 f fd ["self", "thing"] (tZ (jT P w CR) (kS CR)):=by
  refine F.ok (k:=0) qW (fun vs H Q E h=>?_) (fun cdv A outer s H vs Q E hr h=>?_)
  . rcases h with h | h
    . obtain⟨r,m,d,k,d0,ms,rfl,_⟩:=h
      rfl
    . obtain⟨r,m,d,k,ms,rfl,_⟩:=h
      rfl
  . rcases h with h | h
    . obtain⟨r,m,d,k,d0,ms,rfl,A,hms,hk,rd,nl,nls,q⟩:=h
      refine⟨_,(ah (bw (aI (yA (vG hr)) (pv 1) (bH (pv 0) rfl) (by with_unfolding_all rfl))
      (ah (cV (bb aV rfl Z.len bT (aa (bH (pv 0) rfl) af)) (qc (bH (pv 0) rfl) (pv 1) (Bv (vG hr))))
      (av (cx (fb PySem.F.plainAttrs_list PySem.F.slot_list_append PySem.F.type_list_append cR (bH (pv 0) rfl) (aa (pv 1) af)))))
      bf)
      (av (aC (C2 (vG hr) (bH (pv 0) rfl) (pv 1) (fun _ _=>rfl))))),?_⟩
      obtain⟨dx,hob⟩:=A.ob
      obtain⟨n1,n2,n3⟩:=A.tu
      have hml:(ms.map fun p=>V.ref p.2).length=ms.length:=Gg ..
      have hv:=mE d0 0 ms
      refine⟨_,rfl,_,rfl,r,CR,dx,_,_,rfl,hob,TR.cl,TR.places,fA,k,d,d0,dA 0 ms,rfl,rfl,⟨A.jw,A.lC,hk,rd⟩,_,rfl,?_⟩
      by_cases hm:d0∈ms.map (·.1)
      . rw [if_pos hm] at hv
        refine aU (by rw [hv];rfl) ?_
        have e:mF ms d0 k=ms:=by unfold mF;rw [if_pos hm]
        rw [e] at q
        refine⟨_,rfl,r,CR,dx,_,_,rfl,hob,TR.cl,TR.places,fA,_,rfl,k,d,d0,dA 0 ms,_,rfl,rfl,⟨A.jw,A.lC,hk,rd⟩,hv,?_⟩
        rw [Nat.zero_add]
        exact q H A gF.refl
      . rw [if_neg hm] at hv
        refine bZ (by rw [hv];rfl) ?_
        refine⟨_,rfl,r,CR,dx,_,_,rfl,hob,TR.cl,TR.members,dN,m,_,rfl,.inl (aY.of A.mem),_,rfl,r,CR,dx,_,_,rfl,hob,TR.cl,TR.places,fA,_,rfl,k,d,d0,dA 0 ms,rfl,rfl,⟨A.jw,A.lC,hk,rd⟩,bF (by rw [pQ];omega),?_⟩
        have eput:putD (dA 0 ms) d0 k (.int ((ms.map fun p=>V.ref p.2).length:Nat))=dA 0 (ms++[(d0,k)]):=by
          unfold putD
          rw [hv,vH,hml,Nat.zero_add]
          rfl
        rw [eput]
        change (_:Hp->Prop) (upd H d (fV P w d (dA 0 (ms++[(d0,k)]))))
        have hob1:(upd H d (fV P w d (dA 0 (ms++[(d0,k)])))) r=some (.ins CR dx (my (.ref m) (.ref d))):=by rw [ai n2];exact hob
        have hm1:(upd H d (fV P w d (dA 0 (ms++[(d0,k)])))) m=some (.lst (ms.map fun p=>V.ref p.2)):=by rw [ai n3.symm];exact A.mem
        refine⟨_,rfl,r,CR,dx,_,_,rfl,hob1,TR.cl,TR.members,dN,.inl ⟨rfl,_,aY.of hm1⟩,_,rfl,m,_,_,rfl,rfl,hm1,bF (by omega),?_⟩
        have e:mF ms d0 k=ms++[(d0,k)]:=by unfold mF;rw [if_neg hm]
        rw [e] at q
        have kt:∀p zs,H p=some (.tup zs)->∀o o',(upd (upd H d o) m o') p=some (.tup zs):=fun p zs h o o'=>by
          rw [ai (bB h A.mem (by intro z;cases z)),ai (bB h A.jw (by intro z;cases z))];exact h
        have keys:∀(H':Hp),(∀p zs,H p=some (.tup zs)->H' p=some (.tup zs))->∀p∈ms++[(d0,k)],lr p.1/\aX H' (.ref p.2) p.1:=fun H' kt' p hp=>by
          rcases GW.mp hp with hp | hp
          . exact⟨(A.keys p hp).1,(A.keys p hp).2.bp kt' (nls p hp)⟩
          . rw [Gp.mp hp];exact⟨hk,rd.bp kt' nl⟩
        have A2:iS P w CR (upd (upd H d (fV P w d (dA 0 (ms++[(d0,k)])))) m (.lst ((ms.map fun p=>V.ref p.2)++[.ref k]))) r m d (ms++[(d0,k)]) :=
          ⟨⟨dx,by rw [ai n1];exact hob1⟩,by rw [ae,Gz];rfl,by rw [ai n3,ae],keys _ fun p zs h=>kt p zs h _ _⟩
        have hv2:=mE d0 0 (ms++[(d0,k)])
        rw [if_pos (by rw [Gz];exact G0 _ (Gp.mpr rfl)),Nat.zero_add] at hv2
        obtain⟨dx2,hob2⟩:=A2.ob
        refine⟨_,rfl,r,CR,dx2,_,_,rfl,hob2,TR.cl,TR.places,fA,_,rfl,k,d,d0,_,_,rfl,rfl,⟨A2.jw,A2.lC,hk,(A2.keys (d0,k) (G0 _ (Gp.mpr rfl))).2⟩,hv2,?_⟩
        exact q _ A2 fun c o h c1 c2=>by rw [ai c1,ai c2];exact h
    . obtain⟨r,m,d,k,ms,rfl,A,hms,q⟩:=h
      refine⟨_,(ah (bw (gG (zu (dn hr) (pv 1) (bH (pv 0) rfl)))
      (ah (fI (dn hr) (bH (pv 0) rfl) (pv 1) (bb aV rfl Z.len bT (aa (bH (pv 0) rfl) af)) rfl)
      (av (cx (fb PySem.F.plainAttrs_list PySem.F.slot_list_append PySem.F.type_list_append cR (bH (pv 0) rfl) (aa (pv 1) af)))))
      bf)
      (av (aC (rN (dn hr) (bH (pv 0) rfl) (pv 1) (fun _ _=>rfl))))),?_⟩
      obtain⟨dx,hob⟩:=A.ob
      obtain⟨kvs,hd,hkl,hval⟩:=A.jw
      obtain⟨n1,n2,n3⟩:=A.tu
      have hml:(vN ms).length=ms.length:=Gg ..
      refine⟨_,rfl,_,rfl,r,CR,dx,_,_,rfl,hob,TR.cl,TR.places,fA,d,_,rfl,dU.k (k:=Sum.inl (k:Int)) hd,_,rfl,?_⟩
      rw [hval k]
      by_cases hk:k∈ms
      . rw [if_pos hk]
        refine cq ?_
        have g:=dU.k (k:=Sum.inl (k:Int)) hd
        rw [hval k,if_pos hk] at g
        have e:LS.putIn ms k=ms:=by unfold LS.putIn;rw [if_pos hk]
        rw [e] at q
        exact⟨_,rfl,r,CR,dx,_,_,rfl,hob,TR.cl,TR.places,fA,_,rfl,d,_,rfl,g,q H A gF.refl⟩
      . rw [if_neg hk]
        refine cD ?_
        refine⟨_,rfl,r,CR,dx,_,_,rfl,hob,TR.cl,TR.members,dN,m,_,rfl,.inl (aY.of A.mem),_,rfl,r,CR,dx,_,_,rfl,hob,TR.cl,TR.places,fA,_,rfl,d,_,rfl,iu.k (k:=Sum.inl (k:Int)) hd (bF (by omega)),?_⟩
        have hob1:(upd H d (.dK (putK kvs (Sum.inl (k:Int)) (.int ((vN ms).length:Nat))))) r=some (.ins CR dx (my (.ref m) (.ref d))):=by rw [ai n2];exact hob
        have hm1:(upd H d (.dK (putK kvs (Sum.inl (k:Int)) (.int ((vN ms).length:Nat))))) m=some (.lst (vN ms)):=by rw [ai n3.symm];exact A.mem
        refine⟨_,rfl,r,CR,dx,_,_,rfl,hob1,TR.cl,TR.members,dN,.inl ⟨rfl,_,aY.of hm1⟩,_,rfl,m,_,_,rfl,rfl,hm1,bF (by omega),?_⟩
        have e:LS.putIn ms k=ms++[k]:=by unfold LS.putIn;rw [if_neg hk]
        rw [e] at q
        have hob2:(upd (upd H d (.dK (putK kvs (Sum.inl (k:Int)) (.int ((vN ms).length:Nat))))) m (.lst (vN ms++[.int (k:Nat)]))) r=some (.ins CR dx (my (.ref m) (.ref d))):=by rw [ai n1];exact hob1
        have hd2:(upd (upd H d (.dK (putK kvs (Sum.inl (k:Int)) (.int ((vN ms).length:Nat))))) m (.lst (vN ms++[.int (k:Nat)]))) d=some (.dK (putK kvs (Sum.inl (k:Int)) (.int ((vN ms).length:Nat)))):=by rw [ai n3,ae]
        have hval2:∀j:Nat,cX (putK kvs (Sum.inl (k:Int)) (.int ((vN ms).length:Nat))) (Sum.inl (j:Int):Key)=if j∈ms++[k] then some (.int ((ms++[k]).idxOf j:Nat)) else none:=fun j=>by
          rw [ph]
          by_cases ej:j=k
          . subst ej
            rw [if_pos rfl,if_pos (by simp),C3 hk,hml]
          . rw [if_neg (fun z=>ej (by have:=Sum.inl.inj z;omega)),hval j]
            by_cases hj:j∈ms
            . rw [if_pos hj,if_pos (by simp [hj]),C4 hj]
            . rw [if_neg hj,if_neg (by simp [hj,ej])]
        have g:=dU.k (k:=Sum.inl (k:Int)) hd2
        rw [hval2 k,if_pos (by simp)] at g
        refine⟨_,rfl,r,CR,dx,_,_,rfl,hob2,TR.cl,TR.places,fA,_,rfl,d,_,rfl,g,q _ ⟨⟨dx,hob2⟩,by rw [ae];show _=some (HO.lst ((ms++[k]).map _));rw [Gz];rfl,_,hd2,?_,hval2⟩ fun c o h c1 c2=>?_⟩
        . have:=dJ kvs (Sum.inl (k:Int):Key) (V.int ((vN ms).length:Nat))
          rw [Gr]
          show _<=_+1
          omega
        . rw [ai c1,ai c2];exact h
theorem yO {f:Addr} {fd:FuncData} (F:bS K "reached" "reached" iG f fd) (Z:Bl mg) (O_ways_on:Own P w K mg base "ways_on" 3 ["end"] jv):bh P w K mg base bQ 4 f fd ["plan"] nT:=by
  refine bS.Ga F (k:=3) iV (fun vs H Q E h=>?_) (fun cdv A outer s H vs Q E hcd hr h=>?_)
  . obtain⟨plv,ps,rfl,_⟩:=h
    rfl
  . obtain⟨plv,ps,rfl,hp,hin,hn0,hn,q⟩:=h
    refine⟨_,(ah (aT (i:=1) iV.nd rfl (Gf rfl) (Dc hcd ao))
      (ah (aT (i:=2) iV.nd rfl (Gf rfl) (cP (aa ao af)))
      (ah (kd PassesOwn.never (AB (pv 2) (fun _=>rfl))
      (ah (aT (i:=3) iV.nd rfl (Gf rfl) (DN PySem.F.plainAttrs_list PySem.F.slot_list_pop PySem.F.type_list_pop DO (pv 2)))
      (av (fY PassesOwn.never rfl (fX (aB O_ways_on (hr.mono (by decide)) rfl (aa (aF aK (aF aK (pv 0) (pv 3) (fun _ _=>rfl)) ao (fun _ _=>rfl)) af))) (aG (i:=4) iV.nd rfl (Gf rfl))
      (av (bw (aI zY (pv 4) (pv 1) (by with_unfolding_all rfl))
      (ah (cx (vt PySem.F.slot_set_add PySem.F.type_set_add se (pv 1) (aa (pv 4) af)))
      (av (cx (fb PySem.F.plainAttrs_list PySem.F.slot_list_append PySem.F.type_list_append cR (pv 2) (aa (pv 4) af)))))
      bf))))))
      (av (aC (bA bu rfl Z.tuple cb (aa (bb (mQ rfl) rfl Z.sorted kN (aa (pv 1) af)) af))))))),?_⟩
    obtain⟨pp,vs,rfl,e1,r1⟩:=aX.bN hp
    have hvl:=r1.len
    rw [Gg] at hvl
    refine fun fs nfs=>?_
    refine⟨ae,Sum.inl (0:Int),rfl,?_⟩
    change (_:Hp->Prop) (upd (upd H fs (bW P w fs [])) fs (bW P w fs [Sum.inl (0:Int)]))
    rw [Cr]
    have s1:=ar.new (o:=bW P w fs [Sum.inl (0:Int)]) nfs
    have hf1:(upd H fs (bW P w fs [Sum.inl (0:Int)])) fs=some (bW P w fs (kI [0])):=ae
    generalize (upd H fs (bW P w fs [Sum.inl (0:Int)]))=H1 at s1 hf1
    refine⟨wY,fun wl nwl=>?_⟩
    have s2:=ar.new (o:=.lst [.int 0]) nwl
    have hf2:=s2 _ _ hf1
    have hw2:(upd H1 wl (.lst [.int 0])) wl=some (.lst (vN [0])):=ae
    have nfw:fs≠wl:=aw hf1 nwl
    have nwH:H wl=none:=s1.free nwl
    have s12:=s1.trans s2
    generalize (upd H1 wl (.lst [.int 0]))=H2 at s2 hf2 hw2 s12
    refine⟨fun m Gd H'=>∃(ks ws:List Nat) (u1 u2:Option V),Gd=[some (.ref pp),some (.ref fs),some (.ref wl),u1,u2]/\H' fs=some (bW P w fs (kI ks))/\H' wl=some (.lst (vN ws))/\yD ps ks ws/\m=2*(ps.length-ks.length)+ws.length/\ws.length<=ks.length/\ar H H',⟨_,[0],[0],_,_,rfl,hf2,hw2,⟨by simp,fun k hk=>by rw [Gp.mp hk];exact hn0,fun k hk=>by rw [Gp.mp hk];exact .zero,by simp,fun k hk=>hk,fun k hk=>.inl hk⟩,rfl,Gi _,s12⟩,?_⟩
    rintro m Gd H3 ⟨ks,ws,u1,u2,rfl,hf3,hw3,sk,hm,hwk,s3⟩
    have hkn:=dz sk.nd sk.lt
    refine⟨_,rfl,!(vN ws).isEmpty,.inl ⟨_,aY.of hw3,rfl⟩,?_⟩
    rcases (show ws=[]\/∃ws' at_,ws=ws' ++ [at_] from (List.eq_nil_or_concat ws).imp id fun ⟨a,b,h⟩=>⟨a,b,by rw [h,List.concat_eq_append]⟩) with rfl | ⟨ws',at_,rfl⟩
    . refine aU rfl ?_
      refine⟨_,rfl,fs,ks.map (fun k:Nat=>(k:Int)),rfl,(by rw [hf3,xC];rfl),(by rw [Gg];omega),fun l ss hperm _ nl=>?_⟩
      obtain⟨ms,rfl,hms⟩:=nU hperm
      refine⟨l,_,rfl,.inl ⟨aY.of ae,?_⟩⟩
      rw [<-z9]
      intro t nt
      refine q t ms _ ae (fun k=>(hms.mem_iff).trans (sk.all k)) (fun k hk=>sk.lt k (hms.mem_iff.mp hk)) (by rw [hms.length_eq];omega) ((s3.trans (ar.new nl)).trans (ar.new nt))
    . have hwl:(ws' ++ [at_]).length=ws'.length+1:=by rw [Gr];rfl
      have hev:vN (ws' ++ [at_])=vN ws' ++ [V.int (at_:Nat)]:=by show (ws' ++ [at_]).map _=_;rw [Gz];rfl
      refine bZ (by rw [hev];cases vN ws' <;> rfl) ?_
      have hak:at_∈ks:=sk.sub at_ (G0 _ (Gp.mpr rfl))
      have hat:=sk.lt at_ hak
      have hps:ps[at_]?=some ps[at_]:=by simp [hat]
      generalize ps[at_]=pce at hps
      obtain⟨ds,e⟩:=pce
      obtain⟨p',xs',pc,da,ea,wsv,ep,e1',el',hx',e2,e3,r3,e4⟩:=eX hp hps
      cases ep
      rw [e1] at e1'
      cases e1'
      refine⟨fun σ' H'=>∃(ks' ws2:List Nat) (u1 u2:Option V),σ' = [some (.ref pp),some (.ref fs),some (.ref wl),u1,u2]/\H' fs=some (bW P w fs (kI ks'))/\H' wl=some (.lst (vN ws2))/\yD ps ks' ws2/\2*(ps.length-ks'.length)+ws2.length<m/\ws2.length<=ks'.length/\ar H H',fun σ' H' ⟨ks',ws2,u1,u2,h1,h2,h3,h4,h5,h6,h7⟩=>⟨_,h5,ks',ws2,u1,u2,h1,h2,h3,h4,rfl,h6,h7⟩,?_⟩
      refine⟨_,rfl,.inl ⟨rfl,_,aY.of hw3⟩,wl,_,.int (at_:Nat),rfl,rfl,hw3,(by rw [hev];simp),?_⟩
      have hdl:(vN (ws' ++ [at_])).dropLast=vN ws':=by rw [hev,List.dropLast_concat]
      rw [hdl]
      have hw4:(upd H3 wl (.lst (vN ws'))) wl=some (.lst (vN ws')):=ae
      have hf4:(upd H3 wl (.lst (vN ws'))) fs=some (bW P w fs (kI ks)):=by rw [ai nfw];exact hf3
      have s4:ar H (upd H3 wl (.lst (vN ws'))):=s3.put nwH
      generalize (upd H3 wl (.lst (vN ws')))=H4 at hw4 hf4 s4
      refine⟨_,rfl,_,rfl,pp,_,_,_,rfl,rfl,ay.of (s4 _ _ e1),bI hx',pc,_,1,_,rfl,rfl,ay.of (s4 _ _ e2),cW,ea,e,rfl,s4 _ _ e4,fun wt H5 hwt s5=>?_⟩
      refine⟨wt,rfl,⟨_,ay.of hwt⟩,iX (K:=K) (a:=wt) (xs:=vN (aN e)) (fun i Gd H'=>∃(ks' add:List Nat) (u2:Option V),Gd=[some (.ref pp),some (.ref fs),some (.ref wl),some (.int (at_:Nat)),u2]/\H' fs=some (bW P w fs (kI ks'))/\H' wl=some (.lst (vN (ws' ++ add)))/\ks' = ks++add/\ks'.Nodup/\(∀k∈ks',k<ps.length)/\(∀k∈add,nS ps k)/\(∀k∈(aN e).take i,k∈ks')/\(∀c o,H5 c=some o->c≠fs->c≠wl->H' c=some o)) ?_ ?_ ?_ ?_⟩
      . exact⟨ks,[],_,rfl,s5 _ _ hf4,by rw [HF];exact s5 _ _ hw4,by rw [HF],sk.nd,sk.lt,(fun _ h=>nomatch h),(fun _ h=>by simp at h),fun c o h _ _=>h⟩
      . rintro i Gd H6 hi ⟨ks',add,u2,rfl,h1,h2,rfl,h4,h5,h6,h7,h8⟩
        exact ay.of (h8 _ _ hwt (bB hwt (s5 _ _ hf4) (by intro z;cases z)) (bB hwt (s5 _ _ hw4) (by intro z;cases z)))
      . rintro i y Gd H6 hi ⟨ks',add,u2,rfl,h1,h2,rfl,h4,h5,h6,h7,h8⟩
        obtain⟨k0,hk0,rfl⟩:∃k,(aN e)[i]?=some k/\y=V.int (k:Nat):=by
          rw [GI] at hi
          cases z:(aN e)[i]? with
          | none=>rw [z] at hi;cases hi
          | some k=>rw [z] at hi;exact⟨k,rfl,(GL.inj hi).symm⟩
        have hk0m:=GJ hk0
        have hk0b:=lU hin hps k0 hk0m
        have htk:(aN e).take (i+1)=(aN e).take i++[k0]:=by rw [G1,hk0];rfl
        refine dB ?_
        refine⟨_,rfl,_,rfl,fs,_,Sum.inl (k0:Int),rfl,h1,rfl,fun b hb=>⟨_,rfl,?_⟩⟩
        rw [vJ] at hb
        by_cases hm0:k0∈ks++add
        . refine aU (by rw [hb.mpr hm0];rfl) ?_
          refine⟨ks++add,add,_,rfl,h1,h2,rfl,h4,h5,h6,fun k hk=>?_,h8⟩
          rw [htk] at hk
          rcases GW.mp hk with hk | hk
          . exact h7 k hk
          . rw [Gp.mp hk];exact hm0
        . refine bZ (by rw [IQ.mpr fun z=>hm0 (hb.mp z)];rfl) ?_
          have hfew:=dz h4 h5
          refine⟨_,rfl,⟨fs,_,rfl,h1⟩,_,rfl,fs,_,Sum.inl (k0:Int),rfl,rfl,h1,(by rw [Gg];exact HH (show (ks++add).length+1<=1002 by omega) (by decide)),?_⟩
          rw [Ad,show LS.putIn (ks++add) k0=ks++(add++[k0]) by unfold LS.putIn;rw [if_neg hm0,Ha]]
          change (_:Hp->Prop) (upd H6 fs (bW P w fs (kI (ks++(add++[k0])))))
          have h27:(upd H6 fs (bW P w fs (kI (ks++(add++[k0]))))) wl=some (.lst (vN (ws' ++ add))):=by rw [ai nfw.symm];exact h2
          have hal:(ws' ++ add).length<=200:=by
            rw [Gr] at hfew ⊢
            omega
          refine⟨_,rfl,.inl ⟨rfl,_,aY.of h27⟩,_,rfl,wl,_,_,rfl,rfl,h27,bF (by rw [Gg];omega),?_⟩
          refine⟨_,add++[k0],_,rfl,by rw [ai nfw,ae],?_,rfl,?_,?_,?_,?_,fun c o h c1 c2=>by rw [ai c2,ai c1];exact h8 c o h c1 c2⟩
          . rw [ae]
            show _=some (HO.lst ((ws' ++ (add++[k0])).map _))
            rw [<-Ha,Gz]
            rfl
          . rw [<-Ha,Hv]
            refine⟨h4,by simp,fun x hx y hy z=>?_⟩
            rw [Gp.mp hy] at z
            exact hm0 (z ▸ hx)
          . intro k hk
            rw [<-Ha] at hk
            rcases GW.mp hk with hk | hk
            . exact h5 k hk
            . rw [Gp.mp hk];exact hk0b
          . intro k hk
            rcases GW.mp hk with hk | hk
            . exact h6 k hk
            . rw [Gp.mp hk];exact .step (sk.Ej at_ hak) hps hk0m
          . intro k hk
            rw [htk] at hk
            rw [<-Ha]
            rcases GW.mp hk with hk | hk
            . exact Hc _ (h7 k hk)
            . exact G0 _ hk
      . rintro Gd H6 ⟨ks',add,u2,rfl,h1,h2,rfl,h4,h5,h6,h7,h8⟩
        rw [show (vN (aN e)).length=(aN e).length from Gg ..,G7] at h7
        have hfew:=dz h4 h5
        refine⟨ks++add,ws' ++ add,_,_,rfl,h1,h2,⟨h4,h5,fun k hk=>?_,Hc _ sk.zero,fun k hk=>?_,fun k hk=>?_⟩,?_,?_,fun c o h=>?_⟩
        . rcases GW.mp hk with hk | hk
          . exact sk.Ej k hk
          . exact h6 k hk
        . rcases GW.mp hk with hk | hk
          . exact Hc _ (sk.sub k (Hc _ hk))
          . exact G0 _ hk
        . rcases GW.mp hk with hk | hk
          . by_cases hka:k=at_
            . subst hka
              refine .inr fun ds' e' he' j hj=>?_
              rw [hps] at he'
              cases he'
              exact h7 j hj
            . rcases sk.done k hk with hw | hd
              . rcases GW.mp hw with hw | hw
                . exact .inl (Hc _ hw)
                . exact absurd (Gp.mp hw) hka
              . exact .inr fun ds' e' he' j hj=>Hc _ (hd ds' e' he' j hj)
          . exact .inl (G0 _ hk)
        . rw [Gr] at hfew ⊢
          rw [Gr] at ⊢
          rw [hwl] at hm
          omega
        . rw [Gr,Gr]
          omega
        . exact h8 c o (s5 _ _ (s4 _ _ h)) (aw h nfs) (aw h nwH)
theorem BM {f:Addr} {fd:FuncData} (F:bS K "heads" "heads" j3 f fd) (Z:Bl mg) (O_reached:Own P w K mg base "reached" 4 ["plan"] nT) (O_ways_on:Own P w K mg base "ways_on" 3 ["end"] jv):bh P w K mg base bQ 5 f fd ["plan"] sA:=by
  refine F.ok (k:=4) mK (fun vs H Q E h=>?_) (fun cdv A outer s H vs Q E hr h=>?_)
  . obtain⟨plv,ps,rfl,_⟩:=h
    rfl
  . obtain⟨plv,ps,rfl,hp,hin,hn0,hn,q⟩:=h
    refine⟨_,(ah (aT (i:=1) mK.nd rfl (Gf rfl) (qi tG rfl Z.set vq))
      (ah (fY PassesOwn.never rfl (fX (aB O_reached (hr.mono (by decide)) rfl (aa (pv 0) af))) (aG (i:=2) mK.nd rfl (Gf rfl))
      (av (fY PassesOwn.never rfl (fX (aB O_ways_on (hr.mono (by decide)) rfl (aa (aF aK (aF aK (pv 0) (pv 2) (fun _ _=>rfl)) ao (fun _ _=>rfl)) af))) (aG (i:=3) mK.nd rfl (Gf rfl))
      (av (bw (aI xQ (pv 3) (pv 2) (aQ _))
      (av (cx (vt PySem.F.slot_set_add PySem.F.type_set_add se (pv 1) (aa (pv 3) af))))
      bf)))))
      (av (aC (bA bu rfl Z.tuple cb (aa (bb (mQ rfl) rfl Z.sorted kN (aa (pv 1) af)) af)))))),?_⟩
    obtain⟨pp,vs,rfl,e1,r1⟩:=aX.bN hp
    have hvl:=r1.len
    rw [Gg] at hvl
    refine⟨rfl,fun fs nfs=>?_⟩
    change (_:Hp->Prop) (upd H fs (bW P w fs []))
    have s1:=ar.new (o:=bW P w fs []) nfs
    have hf1:(upd H fs (bW P w fs [])) fs=some (bW P w fs (kI [])):=ae
    generalize (upd H fs (bW P w fs []))=H1 at s1 hf1
    refine⟨_,rfl,_,ps,rfl,hp.same s1 (cK ps),hin,hn0,hn,fun t ks H2 ht hks hlt hkl s2=>?_⟩
    have hf2:=s2 _ _ hf1
    have s12:=s1.trans s2
    refine⟨t,rfl,⟨_,ay.of ht⟩,iX (K:=K) (a:=t) (xs:=vN ks) (fun i Gd H'=>∃(hs:List Nat) (u1 u2:Option V),Gd=[some (.ref pp),some (.ref fs),u1,u2]/\H' fs=some (bW P w fs (kI hs))/\hs.Nodup/\(∀k∈hs,k<ps.length)/\(∀k,k∈hs↔∃j∈ks.take i,∃ds e,ps[j]?=some (ds,e)/\k∈aN e/\k<=j)/\(∀c o,H2 c=some o->c≠fs->H' c=some o)) ?_ ?_ ?_ ?_⟩
    . exact⟨[],_,_,rfl,hf2,HB,(fun _ h=>nomatch h),fun k=>⟨fun h=>(nomatch h),fun ⟨j,hj,_⟩=>(by simp at hj)⟩,fun c o h _=>h⟩
    . rintro i Gd H3 hi ⟨hs,u1,u2,rfl,h1,h2,h3,h4,h5⟩
      exact ay.of (h5 _ _ ht (bB ht hf2 (by intro z;cases z)))
    . rintro i y Gd H3 hi ⟨hs,u1,u2,rfl,h1,h2,h3,h4,h5⟩
      obtain⟨at_,hat,rfl⟩:∃k,ks[i]?=some k/\y=V.int (k:Nat):=by
        rw [GI] at hi
        cases z:ks[i]? with
        | none=>rw [z] at hi;cases hi
        | some k=>rw [z] at hi;exact⟨k,rfl,(GL.inj hi).symm⟩
      have hatl:=hlt at_ (GJ hat)
      have hps:ps[at_]?=some ps[at_]:=by simp [hatl]
      generalize ps[at_]=pce at hps
      obtain⟨ds,e⟩:=pce
      obtain⟨p',xs',pc,da,ea,wsv,ep,e1',el',hx',e2,e3,r3,e4⟩:=eX hp hps
      cases ep
      rw [e1] at e1'
      cases e1'
      have k3:∀p zs,H p=some (.tup zs)->H3 p=some (.tup zs):=fun p zs h=>h5 _ _ (s12 _ _ h) (bB (s12 _ _ h) hf2 (by intro z;cases z))
      refine dB ?_
      refine⟨_,rfl,_,rfl,pp,_,_,_,rfl,rfl,ay.of (k3 _ _ e1),bI hx',pc,_,1,_,rfl,rfl,ay.of (k3 _ _ e2),cW,ea,e,rfl,k3 _ _ e4,fun wt H5 hwt s5=>?_⟩
      refine⟨wt,rfl,⟨_,ay.of hwt⟩,iX (K:=K) (a:=wt) (xs:=vN (aN e)) (fun j Gd H'=>∃(hs':List Nat) (u2:Option V),Gd=[some (.ref pp),some (.ref fs),some (.int (at_:Nat)),u2]/\H' fs=some (bW P w fs (kI hs'))/\hs'.Nodup/\(∀k∈hs',k<ps.length)/\(∀k,k∈hs'↔k∈hs\/(k∈(aN e).take j/\k<=at_))/\(∀c o,H5 c=some o->c≠fs->H' c=some o)) ?_ ?_ ?_ ?_⟩
      . exact⟨hs,_,rfl,s5 _ _ h1,h2,h3,fun k=>⟨.inl,fun h=>h.elim id fun ⟨z,_⟩=>by simp at z⟩,fun c o h _=>h⟩
      . rintro j Gd H6 hj ⟨hs',u2,rfl,g1,g2,g3,g4,g5⟩
        exact ay.of (g5 _ _ hwt (bB hwt (s5 _ _ h1) (by intro z;cases z)))
      . rintro j y Gd H6 hj ⟨hs',u2,rfl,g1,g2,g3,g4,g5⟩
        obtain⟨k0,hk0,rfl⟩:∃k,(aN e)[j]?=some k/\y=V.int (k:Nat):=by
          rw [GI] at hj
          cases z:(aN e)[j]? with
          | none=>rw [z] at hj;cases hj
          | some k=>rw [z] at hj;exact⟨k,rfl,(GL.inj hj).symm⟩
        have hk0m:=GJ hk0
        have hk0b:=lU hin hps k0 hk0m
        have htk:(aN e).take (j+1)=(aN e).take j++[k0]:=by rw [G1,hk0];rfl
        refine dB ?_
        refine⟨_,rfl,_,rfl,_,_,rfl,rfl,_,rfl,?_⟩
        refine cZ (fun hc=>?_) (fun hc=>?_)
        . have hle:k0<=at_:=by have:=of_decide_eq_true hc;omega
          have hfew:=dz g2 g3
          refine⟨_,rfl,⟨fs,_,rfl,g1⟩,_,rfl,fs,_,Sum.inl (k0:Int),rfl,rfl,g1,(by rw [Gg];exact HH (show hs'.length+1<=1002 by omega) (by decide)),?_⟩
          rw [Ad]
          change (_:Hp->Prop) (upd H6 fs (bW P w fs (kI (LS.putIn hs' k0))))
          refine⟨LS.putIn hs' k0,_,rfl,ae,vB g2,fun k hk=>?_,fun k=>?_,fun c o h c1=>by rw [ai c1];exact g5 c o h c1⟩
          . rcases LS.gN.mp hk with hk | hk
            . exact g3 k hk
            . rw [hk];exact hk0b
          . rw [LS.gN,g4,htk]
            constructor
            . rintro ((h | ⟨h,h'⟩) | rfl)
              . exact .inl h
              . exact .inr ⟨Hc _ h,h'⟩
              . exact .inr ⟨G0 _ (Gp.mpr rfl),hle⟩
            . rintro (h | ⟨h,h'⟩)
              . exact .inl (.inl h)
              . rcases GW.mp h with h | h
                . exact .inl (.inr ⟨h,h'⟩)
                . exact .inr (Gp.mp h)
        . have hle:¬k0<=at_:=fun z=>hc (decide_eq_true (by omega))
          refine⟨hs',_,rfl,g1,g2,g3,fun k=>?_,g5⟩
          rw [g4,htk]
          constructor
          . rintro (h | ⟨h,h'⟩)
            . exact .inl h
            . exact .inr ⟨Hc _ h,h'⟩
          . rintro (h | ⟨h,h'⟩)
            . exact .inl h
            . rcases GW.mp h with h | h
              . exact .inr ⟨h,h'⟩
              . rw [Gp.mp h] at h';exact absurd h' hle
      . rintro Gd H6 ⟨hs',u2,rfl,g1,g2,g3,g4,g5⟩
        rw [show (vN (aN e)).length=(aN e).length from Gg ..,G7] at g4
        refine⟨hs',_,_,rfl,g1,g2,g3,fun k=>?_,fun c o h c1=>g5 c o (s5 _ _ (h5 c o h c1)) c1⟩
        rw [g4,h4,G1,hat]
        constructor
        . rintro (⟨j,hj,r⟩ | ⟨h,h'⟩)
          . exact⟨j,Hc _ hj,r⟩
          . exact⟨at_,G0 _ (Gp.mpr rfl),ds,e,hps,h,h'⟩
        . rintro⟨j,hj,ds',e',hp',h,h'⟩
          rcases GW.mp hj with hj | hj
          . exact .inl ⟨j,hj,ds',e',hp',h,h'⟩
          . have hj:j=at_:=Gp.mp hj
            subst hj
            rw [hps] at hp'
            cases hp'
            exact .inr ⟨h,h'⟩
    . rintro Gd H3 ⟨hs,u1,u2,rfl,h1,h2,h3,h4,h5⟩
      rw [show (vN ks).length=ks.length from Gg ..,G7] at h4
      have hfew:=dz h2 h3
      refine⟨_,rfl,fs,hs.map (fun k:Nat=>(k:Int)),rfl,(by rw [h1,xC];rfl),(by rw [Gg];omega),fun l ss hperm _ nl=>?_⟩
      obtain⟨ms,rfl,hms⟩:=nU hperm
      refine⟨l,_,rfl,.inl ⟨aY.of ae,?_⟩⟩
      rw [<-z9]
      intro t' nt
      have s3:ar H H3:=fun c o h=>h5 c o (s12 c o h) (aw h nfs)
      refine q t' ms _ ae (fun k=>(hms.mem_iff).trans ((h4 k).trans ?_)) (by rw [hms.length_eq];omega) ((s3.trans (ar.new nl)).trans (ar.new nt))
      constructor
      . rintro⟨j,hj,ds,e,r1,r2,r3⟩
        exact⟨j,ds,e,(hks j).mp hj,r1,r2,r3⟩
      . rintro⟨j,ds,e,hj,r1,r2,r3⟩
        exact⟨j,(hks j).mpr hj,ds,e,r1,r2,r3⟩
theorem wx {f:Addr} {fd:FuncData} (F:bS K "copy_for" "copy_for" hU f fd) (Z:Bl mg)  : bh P w K mg base bQ 1 f fd ["lead", "tops", "places", "most"] (nV P w):=by
  refine F.ok (k:=0) o4 (fun vs H Q E h=>?_) (fun cdv A outer s H vs Q E hr h=>?_)
  . obtain⟨la,tp,d,most,k,T,dl,hs,fv,ms,cs,tops,rfl,_⟩:=h
    rfl
  . obtain⟨la,tp,d,most,k,T,dl,hs,fv,ms,cs,tops,rfl,hla,rl,cd,lay,htp,hts,hd,lC,cc,q⟩:=h
    refine⟨_,(ah (aT (i:=4) o4.nd rfl (Gf rfl) (aF aK (pv 0) ao (fun _ _=>rfl)))
      (ah (bw (aI sZ (pv 4) (pv 1) (by with_unfolding_all rfl))
      (av (aC (bx (aa (pv 4) (aa (bx af) af)))))
      bf)
      (ah (bw (PW.pt (BS (aI (C1 (vG hr)) (pv 0) (pv 2) (by with_unfolding_all rfl)) (yZ (aI gU (bb yC rfl Z.len bT (aa (pv 2) af)) (pv 3) (aQ _)))))
      (av (aC (pv 0)))
      bf)
      (av (aC (bx (aa (pv 4) (aa (bx af) af)))))))),?_⟩
    refine⟨_,rfl,la,_,0,_,rfl,rfl,ay.of hla,bM,?_⟩
    have out:bJ tops most cs (k,T)=(k,T0)->∀t1 t2,H t1=none->(upd H t1 (.tup [])) t2=none->Q (.ref t2) (upd (upd H t1 (.tup [])) t2 (.tup [.int (k:Nat),.ref t1])):=fun e t1 t2 n1 n2=>by
      rw [e] at q
      have q2:=ar.new (o:=.tup [.int (k:Nat),.ref t1]) n2
      exact q t2 (.tuple [.int (k:Nat),.tuple []]) _ (.tup ae (.cons (.int _) (.cons (.tup (q2 _ _ ae) .nil) .nil))) ⟨_,FD.zero,rfl⟩ ((ar.new n1).trans q2)
    refine⟨_,rfl,_,rfl,tp,_,rfl,.inr (ay.of htp),rfl,xA _,_,rfl,?_⟩
    rw [show (if false=true then !sY (.int (k:Nat)) (vN hs) else sY (.int (k:Nat)) (vN hs))=decide (k∈hs) from sm k hs]
    by_cases hk:k∈hs
    . refine bZ (decide_eq_true hk) ?_
      exact⟨_,rfl,(by show 0<=sizeLine;decide),fun t1 n1=>⟨ln2,fun t2 n2=>out (by unfold bJ;rw [if_pos ((hts k).mp hk)]) t1 t2 n1 n2⟩⟩
    . refine aU (decide_eq_false hk) ?_
      have hnt:¬tops k:=fun z=>hk ((hts k).mpr z)
      obtain⟨hmem,_⟩:=cd.mem cc
      have hcl:(ms.map (·.1)).length=cs.length:=Paired.length cc
      have hml:ms.length=cs.length:=by rw [<-hcl,Gg]
      have hv:=mE dl 0 ms
      refine⟨_,rfl,_,rfl,la,d,dl,dA 0 ms,rfl,rfl,⟨hd,lC,cd.key lay,rl⟩,_,rfl,?_⟩
      by_cases hin:(k,T)∈cs
      . rw [if_pos (hmem.mpr hin)] at hv
        refine bZ (by rw [hv];rfl) (cD ?_)
        exact⟨_,rfl,q la dl H rl (by unfold bJ;rw [if_neg hnt,if_pos (.inl hin)];exact cd) (ar.refl H)⟩
      . rw [if_neg (fun z=>hin (hmem.mp z))] at hv
        refine aU (by rw [hv];rfl) ?_
        refine⟨_,rfl,d,dA 0 ms,rfl,hd,_,rfl,_,_,rfl,rfl,_,rfl,?_⟩
        rw [pQ]
        refine cZ (fun hc=>?_) (fun hc=>?_)
        . have hlt:cs.length<most:=by have:=of_decide_eq_true hc;omega
          exact⟨_,rfl,q la dl H rl (by unfold bJ;rw [if_neg hnt,if_pos (.inr hlt)];exact cd) (ar.refl H)⟩
        . have hlt:¬cs.length<most:=fun z=>hc (decide_eq_true (by omega))
          exact⟨_,rfl,(by show 0<=sizeLine;decide),fun t1 n1=>⟨ln2,fun t2 n2=>out (by unfold bJ;rw [if_neg hnt,if_neg (fun z=>z.elim hin hlt)]) t1 t2 n1 n2⟩⟩
theorem Al {f:Addr} {fd:FuncData} (F:bS K "end_to" "end_to" jd f fd) (Z:Bl mg) (O_without_ways:Own P w K mg base "without_ways" 4 ["end"] kU):bh P w K mg base bQ 5 f fd ["end", "ways"] sC:=by
 refine F.ok (k:=4) Aj (fun vs H Q E h=>?_) (fun cdv A outer s H vs Q E hr h=>?_)
 ·obtain⟨ea,l,e,ns,rfl,_⟩:=h
  rfl
 ·obtain⟨ea,l,e,ns,rfl,he,hl,hns,hn2,q⟩:=h
  refine⟨_,(ah (bw (aI bP (bb aV rfl Z.len bT (aa (pv 1) af)) ao (aQ _))
   (av (aC (bx (aa bc (aa (aF cy (pv 1) ao (fun _ _=>rfl)) af)))))
   bf)
   (av (aC (bC xl (aB O_without_ways (hr.mono (by decide)) rfl (aa (pv 0) af)) (bA bu rfl Z.tuple cb (aa (pv 1) af)))))),?_⟩
  refine⟨_,rfl,l,_,rfl,.inl (aY.of hl),rfl,_,rfl,?_⟩
  have hlen:(vN ns).length=ns.length:=Gg ..
  by_cases h1:ns.length=1
  ·obtain⟨a,rfl⟩:∃a,ns=[a]:=List.length_eq_one_iff.mp h1
   refine bZ (decide_eq_true rfl) ?_
   exact⟨_,rfl,l,_,0,_,rfl,rfl,aY.of hl,bM,ln2,fun t nt=>q t _ ae (ar.new nt)⟩
  ·refine aU (decide_eq_false fun z=>h1 (by have:=V.int.inj z;omega)) ?_
   have hns:=hns.resolve_left h1
   refine⟨_,rfl,ea,e,rfl,he,fun t H1 ht s1=>⟨_,rfl,l,_,rfl,.inl ⟨aY.of (s1 _ _ hl),fun t2 nt2=>?_⟩⟩⟩
   have q2:=ar.new (o:=.tup (vN ns)) nt2
   have hhl:(jQ e).length<=3:=by cases e <;> simp [jQ]
   refine⟨t,t2,_,_,rfl,rfl,q2 _ _ ht,ae,G3 (bF (by omega)),fun t3 H3 ht3 s3=>?_⟩
   refine q t3 H3 ?_ ((s1.trans q2).trans s3)
   have e1:mG e ns=mB e ns:=by
    match ns,h1 with
    | [],_=>rfl
    | [a],h=>exact absurd rfl h
    | _::_::_,_=>rfl
   rw [e1,vz hns]
   exact ht3
theorem wy {f:Addr} {fd:FuncData} (F:bS K "led_past" "led_past" hV f fd) (Z:Bl mg) {tk_MOST_TO_LEAD:Tok} (G_MOST_TO_LEAD:mg "MOST_TO_LEAD" = some (.int 60 tk_MOST_TO_LEAD)) {CR:Addr} (TR:sg K CR) (O_heads:Own P w K mg base "heads" 5 ["plan"] sA) (O_start:Own P w K mg base "start" 4 ["plan"] sy) (O_Row___init__:rO P w K mg base CR "Row" 1 ["self", "first"] (tZ (jS P w CR) (kR CR))) (O_Row_place_of:eE P w K mg base CR "place_of" 1 ["self", "thing"] (tZ (jT P w CR) (kS CR))) (O_behind:Own P w K mg base "behind" 3 ["facts", "deeds"] pM) (O_leads:Own P w K mg base "leads" 5 ["facts", "end"] (sx aA)) (O_copy_for:Own P w K mg base "copy_for" 1 ["lead", "tops", "places", "most"] (nV P w)) (O_end_to:Own P w K mg base "end_to" 5 ["end", "ways"] sC):bh P w K mg base bQ 7 f fd ["plan", "most"] (nX P w CR):=by
  refine F.ok (k:=6) di (fun vs H Q E h=>?_) (fun cdv A outer s H vs Q E hr h=>?_)
  . obtain⟨plv,ps,xs,most,rfl,_⟩:=h
    rfl
  . obtain⟨plv,ps,xs,most,rfl,hp,pok,nok,hx10,hn0,hn,hm1,hm3,q⟩:=h
    refine⟨_,(ah (bw (aI uo (bb aV rfl Z.len bT (aa (pv 0) af)) (iA (v:=.int 60) rfl G_MOST_TO_LEAD ⟨_,rfl⟩) (aQ _))
      (av Aq)
      bf)
      (ah (aT (i:=2) di.nd rfl (GO rfl) (aB O_heads (hr.mono (by decide)) rfl (aa (pv 0) af)))
      (ah (cG (aT (i:=3) di.nd rfl (GO rfl) (rP O_Row___init__ (hr.mono (by decide)) rfl (aa (bx (aa ao (aa (eB (aI sZ ao (pv 2) (by with_unfolding_all rfl)) (bx af) (aB O_start (hr.mono (by decide)) rfl (aa (pv 0) af))) af))) af))))
      (ah (aT (i:=4) di.nd rfl (Gf rfl) (cP af))
      (ah (kd PassesOwn.never (aI gU (bb aV rfl Z.len bT (aa (pv 4) af)) (bb aV rfl Z.len bT (aa (bH (pv 3) rfl) af)) (aQ _))
      (ah (cV (aF cy (bH (pv 3) rfl) (bb aV rfl Z.len bT (aa (pv 4) af)) (fun _ _=>rfl)) (cU rfl (aR (aG (i:=5) di.nd rfl (Gf rfl)) (aR (aG (i:=6) di.nd rfl (Gf rfl)) cI))))
      (ah (cV (aF aK (pv 0) (pv 5) (fun _ _=>rfl)) (cU rfl (aR (aG (i:=7) di.nd rfl (Gf rfl)) (aR (aG (i:=8) di.nd rfl (Gf rfl)) cI))))
      (ah (aT (i:=9) di.nd rfl (Gf rfl) (aB O_leads (hr.mono (by decide)) rfl (aa (aB O_behind (hr.mono (by decide)) rfl (aa (pv 6) (aa (pv 7) af))) (aa (pv 8) af))))
      (ah (md (i:=10) ["lead"] ["copies", "tops", "most"] [3,2,1] rfl di.nd rfl rfl rfl (fX (pv 9)) rfl (by decide +kernel) (by decide +kernel) (by decide +kernel) ⟨⟨rfl,.inl rfl,rfl⟩,⟨⟨rfl,.inl rfl,rfl⟩,⟨⟨rfl,.inl rfl,rfl⟩,True.intro⟩⟩⟩ (fun _ _ _ _=>(aG (i:=0) (show ((["lead"]:List Str)++(["copies", "tops", "most"]:List Str)).Nodup by decide +kernel) rfl (Gf rfl) (hf:=GO rfl))) (fun _ _ _ _=>gf) (fun _ _ _ _=>(gg O_Row_place_of (pv 1) (hr.mono (by decide)) (aa (aB O_copy_for (hr.mono (by decide)) rfl (aa (pv 0) (aa (pv 2) (aa (Df (K:=K) rfl (pv 1) rfl) (aa (pv 3) af))))) af))))
      (av (cx (fb PySem.F.plainAttrs_list PySem.F.slot_list_append PySem.F.type_list_append cR (pv 4) (aa (bx (aa (pv 7) (aa (aB O_end_to (hr.mono (by decide)) rfl (aa (pv 8) (aa (pv 10) af))) af))) af)))))))))
      (av (aC (bx (aa (bA bu rfl Z.tuple cb (aa (pv 4) af)) (aa (bA bu rfl Z.tuple cb (aa (bH (pv 3) rfl) af)) af)))))))))),?_⟩
    obtain⟨pp,vs,rfl,e1,r1⟩:=aX.bN hp
    have hvl:=r1.len
    rw [Gg] at hvl
    have hin:=pok.qx
    refine⟨_,rfl,pp,_,rfl,.inr (ay.of e1),_,_,rfl,rfl,_,rfl,?_⟩
    refine aU (decide_eq_false (by omega)) ?_
    refine⟨_,rfl,_,ps,rfl,hp,hin,hn0,hn,fun tp hs H1 htp hhs hsl s1=>?_⟩
    have hp1:=hp.same s1 (cK ps)
    have hal:(bU ps).length<=4000:=by
      have h1:=C8 pok
      have h2:ps.length*(2*6+1)<=60*13:=Nat.mul_le_mul hn (Gi 13)
      omega
    refine⟨fun σ' H'=>∃(r m d ka:Addr) (d0:PyData),σ' = [some (.ref pp),some (.int (most:Nat)),some (.ref tp),some (.ref r),none,none,none,none,none,none,none]/\iS P w CR H' r m d [(d0,ka)]/\CD (kG ps) d0/\H m=none/\H d=none/\H r=none/\ar H1 H',?_,?_⟩
    . have layc:vF (kG ps).2:=by
        unfold kG
        split
        . exact dC.zero.lay nok
        . exact (pR pok).lay nok
      refine⟨_,rfl,tp,_,rfl,.inr (ay.of htp),rfl,xA _,_,rfl,?_⟩
      rw [show (if false=true then !sY (.int 0) (vN hs) else sY (.int 0) (vN hs))=decide (0∈hs) from sm 0 hs]
      by_cases h0':0∈hs
      . have h0:=(hhs 0).mp h0'
        refine bZ (decide_eq_true h0') ?_
        refine⟨(by show 0<=sizeLine;decide),fun t1 n1=>⟨ln2,fun ka nka=>fun r dx nx ndx nex=>?_⟩⟩
        have cd:=(show CD (kG ps) (.tuple [.int ((0:Nat):Int),.tuple []]) from by unfold kG;rw [if_pos h0];exact⟨_,FD.zero,rfl⟩)
        have nl:=cd.lV
        have q2:=ar.new (o:=.tup [.int 0,.ref t1]) nka
        have s3:=(ar.new (o:=.tup []) n1).trans q2
        have rd3:aX (upd (upd H1 t1 (.tup [])) ka (.tup [.int 0,.ref t1])) (.ref ka) (.tuple [.int ((0:Nat):Int),.tuple []]):=.tup ae (.cons (.int _) (.cons (.tup (q2 _ _ ae) .nil) .nil))
        generalize (upd (upd H1 t1 (.tup [])) ka (.tup [.int 0,.ref t1]))=H3 at q2 s3 rd3 nx ndx
        have s0:ar H3 (upd (upd H3 dx (.own r)) r (.ins CR dx [])):=fun b o e=>by
          rw [ai (aw e nx),ai (aw e ndx)]
          exact e
        refine .inl ⟨r,dx,ka,_,rfl,ae,cd.key layc,rd3.same s0 nl,nl,fun m d H4 A4 k4 nm nd=>⟨rfl,?_⟩⟩
        exact⟨r,m,d,ka,_,rfl,A4,cd,s1.free (s3.free (s0.free nm)),s1.free (s3.free (s0.free nd)),s1.free (s3.free nx),fun c o e=>k4 c o (s0 c o (s3 c o e)) (aw (s3 c o e) nx)⟩
      . have h0:¬dq ps 0:=fun z=>h0' ((hhs 0).mpr z)
        refine aU (decide_eq_false h0') ?_
        refine⟨_,rfl,_,ps,xs,6,rfl,hp1,pok,(by omega),hal,fun v ss H2 rv hperm hsort s3'=>⟨ln2,fun ka nka=>fun r dx nx ndx nex=>?_⟩⟩
        have cd:=(show CD (kG ps) (.tuple [.int ((0:Nat):Int),nR ss]) from by unfold kG;rw [if_neg h0];exact⟨_,BD hperm hsort,rfl⟩)
        have nl:=cd.lV
        have q2:=ar.new (o:=.tup [.int 0,v]) nka
        have s3:=s3'.trans q2
        have rd3:aX (upd H2 ka (.tup [.int 0,v])) (.ref ka) (.tuple [.int ((0:Nat):Int),nR ss]):=.tup ae (.cons (.int _) (.cons (rv.same q2 (iB ss)) .nil))
        generalize (upd H2 ka (.tup [.int 0,v]))=H3 at q2 s3 rd3 nx ndx
        have s0:ar H3 (upd (upd H3 dx (.own r)) r (.ins CR dx [])):=fun b o e=>by
          rw [ai (aw e nx),ai (aw e ndx)]
          exact e
        refine .inl ⟨r,dx,ka,_,rfl,ae,cd.key layc,rd3.same s0 nl,nl,fun m d H4 A4 k4 nm nd=>⟨rfl,?_⟩⟩
        exact⟨r,m,d,ka,_,rfl,A4,cd,s1.free (s3.free (s0.free nm)),s1.free (s3.free (s0.free nd)),s1.free (s3.free nx),fun c o e=>k4 c o (s0 c o (s3 c o e)) (aw (s3 c o e) nx)⟩
    rintro σ' H2 ⟨r,m,d,ka,d0,rfl,A2,cd0,nm,nd,nr,s2⟩
    have s12:=s1.trans s2
    have htp2:=s2 _ _ htp
    have cc2:oY [(d0,ka)] [kG ps]:=.cons cd0 .nil
    refine⟨(by show 0<=sizeLine;decide),fun pz npz=>?_⟩
    have npzH:H pz=none:=s12.free npz
    have q3:=ar.new (o:=.lst []) npz
    have s3:=s12.trans q3
    have A3:=A2.mv cc2.lV (fun c o h _=>q3 c o h) (fun p zs h=>q3 _ _ h)
    have htp3:=q3 _ _ htp2
    have hz3:(upd H2 pz (.lst [])) pz=some (.lst []):=ae
    have npm:pz≠m:=(aw A2.mem npz).symm
    have npd:pz≠d:=(aw A2.jw npz).symm
    have npr:pz≠r:=by obtain⟨dx,h⟩:=A2.ob;exact (aw h npz).symm
    generalize (upd H2 pz (.lst []))=H3 at q3 s3 A3 hz3 htp3
    have c0ok:(kG ps).1<ps.length/\dC xs (kG ps).2:=by
      unfold kG
      split
      . exact⟨hn0,dC.zero⟩
      . exact⟨hn0,pR pok⟩
    refine⟨fun fu Gd H'=>∃(ms:List (PyData×Addr)) (cs:List Cp) (outs:List Piece) (zs:List V) (u1 u2 u3 u4 u5 u6:Option V),Gd=[some (.ref pp),some (.int (most:Nat)),some (.ref tp),some (.ref r),some (.ref pz),u1,u2,u3,u4,u5,u6]/\iS P w CR H' r m d ms/\oY ms cs/\kF ps.length most cs/\(∀c∈cs,c.1<ps.length/\dC xs c.2)/\H' pz=some (.lst zs)/\br H' zs (outs.map df)/\hG (dq ps) most ps fu cs outs=i9 ps most/\fu+outs.length=most+ps.length/\outs.length<=cs.length/\H' tp=some (.tup (vN hs))/\ar H H',⟨most+ps.length,[(d0,ka)],[kG ps],[],[],_,_,_,_,_,_,rfl,A3,cc2,⟨by simp,Gy (HL _ _) hm1⟩,(fun c hc=>by rw [Gp.mp hc];exact c0ok),hz3,.nil,rfl,rfl,GK _,htp3,s3⟩,?_⟩
    clear A2 A3 hz3 s3 q3 htp3 cc2 cd0 npz htp2 s2
    rintro fu Gd H4 ⟨ms,cs,outs,zs,u1,u2,u3,u4,u5,u6,rfl,A4,cc4,tU,hcs,hz4,rz4,hloop,hfu,hoc,htp4,s4⟩
    obtain⟨dx4,hob4⟩:=A4.ob
    have hzl:zs.length=outs.length:=by have:=rz4.len;rw [Gg] at this;exact this
    have hml:ms.length=cs.length:=by have:=Paired.length cc4;rw [Gg] at this;exact this
    have hml':(ms.map fun p=>V.ref p.2).length=ms.length:=Gg ..
    have hcn:=tU.len fun c hc=>(hcs c hc).1
    refine⟨_,rfl,pz,_,rfl,.inl (aY.of hz4),_,rfl,r,CR,dx4,_,_,rfl,hob4,TR.cl,TR.members,dN,m,_,rfl,.inl (aY.of A4.mem),_,_,rfl,rfl,_,rfl,?_⟩
    refine cZ (fun hc=>?_) (fun hc=>?_)
    . have hlt:outs.length<ms.length:=by have:=of_decide_eq_true hc;omega
      obtain⟨fu,rfl⟩:∃f',fu=f' + 1:=⟨fu-1,by omega⟩
      have hmsi:ms[outs.length]?=some ms[outs.length]:=by simp [hlt]
      generalize ms[outs.length]=pm at hmsi
      obtain⟨c,hci,cd⟩:=kW cc4 (i:=outs.length) (x:=pm.1) (by rw [GI,hmsi];rfl)
      have hcm:=GJ hci
      obtain⟨hcl,hct⟩:=hcs c hcm
      have hps:ps[c.1]?=some ps[c.1]:=by simp [hcl]
      generalize ps[c.1]=pce at hps
      rw [qT hci hps] at hloop
      obtain⟨ds,e⟩:=pce
      obtain⟨p',xs',pc,da,ea,ws,ep,e1',el',hx',e2,e3,r3,e4⟩:=eX hp hps
      cases ep
      rw [e1] at e1'
      cases e1'
      have dok:=pok.iP _ (GJ hps)
      have eok:=pok.ends _ (GJ hps)
      obtain⟨fd,hfd,epm⟩:=id cd
      have rdm:=(A4.keys pm (GJ hmsi)).2
      rw [epm] at rdm
      obtain⟨pa,pvs,ere,hpm,rpv⟩:=aX.bN rdm
      cases ere
      obtain⟨y1,t1,rfl,q1,rpv⟩:=rpv.cons_inv
      obtain⟨y2,t2,rfl,q2,rpv⟩:=rpv.cons_inv
      have z:=rpv.nil_inv
      subst z
      rw [q1.int_inv] at hpm
      have fv2:FV H4 y2 c.2:=hfd.fv q2
      refine⟨_,fun σ' H' h=>⟨fu,G8 fu,h⟩,?_⟩
      refine⟨_,rfl,r,CR,dx4,_,_,rfl,hob4,TR.cl,TR.members,dN,_,rfl,pz,_,rfl,.inl (aY.of hz4),m,_,_,_,rfl,rfl,aY.of A4.mem,bI (j:=zs.length) (by rw [hzl,GI,hmsi];rfl),pm.2,_,rfl,ay.of hpm,rfl,_,_,rfl,_,_,rfl,rfl,?_⟩
      refine⟨_,rfl,_,rfl,pp,_,_,_,rfl,rfl,ay.of (s4 _ _ e1),bI hx',pc,_,rfl,ay.of (s4 _ _ e2),rfl,_,_,rfl,_,_,rfl,rfl,?_⟩
      have bok:=hct.yE dok.2
      refine⟨_,rfl,_,rfl,y2,da,ws,ds,c.2,10,rfl,fv2,s4 _ _ e3,r3.same s4 (cw ds),(fun ss hs nd=>Gy (hct.bK ss hs nd) hx10),(by have:ds.length<=6:=dok.1;omega),fun gv H5 g5 s5=>⟨_,rfl,gv,ea,eF c.2 ds,e,rfl,g5,s5 _ _ (s4 _ _ e4),(fun ss hs nd=>Gy (bok.bK ss hs nd) (by omega)),fun at_ vs2 H6 hat pv s6=>?_⟩⟩
      have lok:=xE bok eok
      obtain⟨hll,hl2⟩:=vK (e:=e) bok
      have s46:=s5.trans s6
      have A6:=A4.mv cc4.lV (fun c o h _=>s46 c o h) (fun p zs h=>s46 _ _ h)
      have hz6:=s46 _ _ hz4
      have htp6:=s46 _ _ htp4
      have hvl:vs2.length=(dP (eF c.2 ds) e).length:=Paired.length pv
      generalize hls:dP (eF c.2 ds) e=ls at hloop lok hll hl2 pv hvl
      refine⟨_,rfl,at_,rfl,⟨_,ay.of hat⟩,fun acc na=>?_⟩
      have nam:acc≠m:=(aw A6.mem na).symm
      have nad:acc≠d:=(aw A6.jw na).symm
      have nar:acc≠r:=by obtain⟨dx,h⟩:=A6.ob;exact (aw h na).symm
      have kb:∀{H':Hp},gF m d H6 H'->∀p zs,H6 p=some (.tup zs)->H' p=some (.tup zs):=fun b p zs h=>b p _ h (bB h A6.mem (by intro z;cases z)) (bB h A6.jw (by intro z;cases z))
      refine nh (K:=K) (a:=at_) (xs:=vs2) (fun i ys Ge H'=>∃(cv:Option V) (ms':List (PyData×Addr)),Ge=[cv,some (.ref r),some (.ref tp),some (.int (most:Nat))]/\iS P w CR H' r m d ms'/\oY ms' (cm (dq ps) most cs (ls.take i)).1/\ys=vN (cm (dq ps) most cs (ls.take i)).2/\H' acc=some (.lst ys)/\gF m d H6 H') ?_ ?_ ?_ ?_
      . have qn:=ar.new (o:=.lst []) na
        exact⟨none,ms,rfl,A6.mv cc4.lV (fun c o h _=>qn c o h) (fun p zs h=>qn _ _ h),cc4,rfl,ae,gF.of_same qn⟩
      . rintro i ys Ge H7 hi ⟨cv,ms',rfl,A7,cc7,rfl,ha,b7⟩
        refine⟨ay.of (kb b7 _ _ hat),ha,bF ?_⟩
        obtain⟨_,_,hlen,_⟩:=jx (tops:=dq ps) (ls:=ls.take i) (ns:=[]) tU hcs fun c hc=>lok c (IY hc)
        rw [Gg]
        unfold cm
        rw [hlen,G9]
        show 0+_<=_
        omega
      . rintro i y ys Ge H7 hi ⟨cv,ms',rfl,A7,cc7,rfl,ha,b7⟩
        obtain⟨pr,hpr,qa,u,rfl,hq,fvu⟩:=kW pv hi
        obtain⟨k,U⟩:=pr
        obtain⟨hkl,hUok⟩:=lok _ (GJ hpr)
        obtain⟨cok7,hcs7,_,_⟩:=jx (tops:=dq ps) (ls:=ls.take i) (ns:=[]) tU hcs fun c hc=>lok c (IY hc)
        have hcn7:=kF.len cok7 fun c hc=>(hcs7 c hc).1
        have hml7:ms'.length=(cm (dq ps) most cs (ls.take i)).1.length:=by have:=Paired.length cc7;rw [Gg] at this;exact this
        have hnx:=wj (dq ps) most (cs:=cs) hpr
        have fvu7:=fvu.bp (kb b7)
        obtain⟨fdu,hfdu,ru⟩:=fvu7.fd
        have hq7:=kb b7 _ _ hq
        have cdl:CD (k,U) (.tuple [.int (k:Nat),fdu]):=⟨fdu,hfdu,rfl⟩
        obtain⟨dx7,hob7⟩:=A7.ob
        have htp7:=kb b7 _ _ htp6
        refine dB ?_
        refine lh ?_
        refine cD ?_
        refine⟨_,rfl,r,dx7,_,rfl,hob7,nO,_,rfl,_,rfl,_,rfl,r,CR,dx7,_,_,rfl,hob7,TR.cl,TR.places,fA,_,rfl,qa,tp,d,most,k,U,_,hs,u,ms',_,dq ps,rfl,hq7,.tup hq7 (.cons (.int _) (.cons ru .nil)),cdl,hUok.lay nok,htp7,hhs,A7.jw,A7.lC,cc7,fun a d' H8 rd' cd' s8=>?_⟩
        have A8:=A7.mv cc7.lV (fun c o h _=>s8 c o h) (fun p zs h=>s8 _ _ h)
        have hcpok:dC xs (bJ (dq ps) most (cm (dq ps) most cs (ls.take i)).1 (k,U)).2:=by
          unfold bJ
          split
          . exact dC.zero
          . split
            . exact hUok
            . exact dC.zero
        refine .inl ⟨r,m,d,a,d',ms',rfl,A8,(by rw [hml7];unfold cm;omega),cd'.key (hcpok.lay nok),rd',cd'.lV,cc7.lV,fun H9 A9 b9=>?_⟩
        have ha9:=b9 _ _ (s8 _ _ ha) nam nad
        have cc9:=oY.put (a:=a) cc7 cd'
        have eix:=(cd'.mem cc9).2
        rw [eix]
        refine⟨ha9,_,mF ms' d' a,rfl,?_,?_,?_,ae,fun c' o h c1 c2=>?_⟩
        . refine A9.mv cc9.lV (fun x o h z=>?_) (fun p zs h=>by rw [ai (bB h ha9 (by intro z;cases z))];exact h)
          rw [ai ?_]
          . exact h
          . rcases z with rfl | rfl | rfl
            . exact nar.symm
            . exact nam.symm
            . exact nad.symm
        . rw [hnx];exact cc9
        . rw [hnx]
          show _=((cm (dq ps) most cs (ls.take i)).2++[_]).map _
          rw [Gz]
          rfl
        . rw [ai (aw h na)]
          exact b9 c' o (s8 _ _ (b7 c' o h c1 c2)) c1 c2
      rintro ys Ge H7 ⟨cv,ms',rfl,A7,cc7,rfl,ha,b7⟩
      rw [hvl,G7] at cc7 ha
      obtain⟨cok7,hcs7,hlen7,more,emore⟩:=jx (tops:=dq ps) (ls:=ls) (ns:=[]) tU hcs lok
      have hcn7:=kF.len cok7 fun c hc=>(hcs7 c hc).1
      have s7:ar H H7:=fun c o h=>b7 c o (s46 c o (s4 c o h)) (aw h nm) (aw h nd)
      have hz7:H7 pz=some (.lst zs):=b7 _ _ hz6 npm npd
      have hlen7':(cm (dq ps) most cs ls).2.length=ls.length:=by unfold cm;rw [hlen7];show 0+_=_;omega
      refine⟨_,rfl,.inl ⟨rfl,_,aY.of hz7⟩,_,rfl,_,rfl,_,rfl,ea,acc,e,(cm (dq ps) most cs ls).2,rfl,s7 _ _ e4,ha,(by rw [hlen7'];exact hll),(by rw [hlen7'];exact hl2),fun t3 H8 ht3 s8=>⟨ln2,fun t4 nt4=>?_⟩⟩
      have q4:=ar.new (o:=.tup [.ref da,.ref t3]) nt4
      have s79:=s8.trans q4
      have ht9:=q4 _ _ ht3
      have h49:(upd H8 t4 (.tup [.ref da,.ref t3])) t4=some (.tup [.ref da,.ref t3]):=ae
      generalize (upd H8 t4 (.tup [.ref da,.ref t3]))=H9 at q4 s79 ht9 h49
      have hz9:=s79 _ _ hz7
      refine⟨pz,_,_,rfl,rfl,hz9,bF (by omega),?_⟩
      have kt:∀p xs,H9 p=some (.tup xs)->(upd H9 pz (.lst (zs++[.ref t4]))) p=some (.tup xs):=fun p xs h=>by rw [ai (bB h hz9 (by intro z;cases z))];exact h
      have s9:=s7.trans s79
      have kt49:∀p xs,H4 p=some (.tup xs)->(upd H9 pz (.lst (zs++[.ref t4]))) p=some (.tup xs):=fun p xs h=>kt _ _ (s79 _ _ (kb b7 _ _ (s46 _ _ h)))
      refine⟨ms',(cm (dq ps) most cs ls).1,outs++[(ds,mG e (cm (dq ps) most cs ls).2)],_,_,_,_,_,_,_,rfl,A7.mv cc7.lV (fun x o h z=>?_) (fun p zs h=>kt _ _ (s79 _ _ h)),cc7,cok7,hcs7,ae,?_,hloop,(by rw [Gr];show fu+(_+1)=_;omega),?_,kt49 _ _ htp4,s9.put npzH⟩
      . rw [ai ?_]
        . exact s79 _ _ h
        . rcases z with rfl | rfl | rfl
          . exact npr.symm
          . exact npm.symm
          . exact npd.symm
      . rw [Gz]
        have rd4:aX H9 (.ref t4) (df (ds,mG e (cm (dq ps) most cs ls).2)):=.tup h49 (.cons (.tup (s9 _ _ e3) (r3.same s9 (cw ds))) (.cons (vA ht9) .nil))
        exact br.app (rz4.bp kt49 (bg outs)) (rd4.bp kt (gJ _))
      . have:(cm (dq ps) most cs ls).1.length=cs.length+more.length:=by unfold cm;rw [emore,Gr]
        rw [this,Gr]
        show _+1<=_
        omega
    . have hnl:¬outs.length<ms.length:=fun z=>hc (decide_eq_true (by omega))
      rw [tT (HM (by omega))] at hloop
      rw [<-hloop] at q
      refine⟨_,rfl,pz,_,rfl,.inl ⟨aY.of hz4,fun t1 n1=>?_⟩⟩
      have q1:=ar.new (o:=.tup zs) n1
      refine⟨_,rfl,r,CR,dx4,_,_,rfl,q1 _ _ hob4,TR.cl,TR.members,dN,m,_,rfl,.inl ⟨aY.of (q1 _ _ A4.mem),fun t2 n2=>⟨ln2,fun t3 n3=>?_⟩⟩⟩
      have q2:=ar.new (o:=.tup (ms.map fun p=>V.ref p.2)) n2
      have q3:=ar.new (o:=.tup [.ref t1,.ref t2]) n3
      have q13:=(q1.trans q2).trans q3
      refine q (.ref t3) (ms.map (·.1)) _ cc4 (.tup ae (.cons (.tup (q3 _ _ (q2 _ _ ae)) (rz4.same q13 (bg outs))) (.cons (.tup (q3 _ _ ae) (xF fun p hp=>(A4.keys p hp).2.same q13 (cc4.lV p hp))) .nil))) (s4.trans q13)
theorem sM {f:Addr} {fd:FuncData} (F:bS K "with_steads" "with_steads" fk f fd) (Z:Bl mg) {CR:Addr} (TR:sg K CR) (O_Row___init__:rO P w K mg base CR "Row" 1 ["self", "first"] (tZ (jS P w CR) (kR CR))) (O_Row_place_of:eE P w K mg base CR "place_of" 1 ["self", "thing"] (tZ (jT P w CR) (kS CR))) (O_ways_on:Own P w K mg base "ways_on" 3 ["end"] jv) (O_without_ways:Own P w K mg base "without_ways" 4 ["end"] kU):bh P w K mg base bQ 5 f fd ["plan", "steads"] pO:=by
  refine F.ok (k:=4) eQ (fun vs H Q E h=>?_) (fun cdv A outer s H vs Q E hr h=>?_)
  . obtain⟨plv,l,ps,ss,rfl,_⟩:=h
    rfl
  . obtain⟨plv,l,ps,ss,rfl,hp,hin,hl,hsl,hn0,hn,hss,q⟩:=h
    refine⟨_,(ah (aT (i:=2) eQ.nd rfl (GO rfl) (rP O_Row___init__ (hr.mono (by decide)) rfl (aa (aF (vE (K:=K) rfl) (pv 1) ao (fun _ _=>rfl)) af)))
      (ah (aT (i:=3) eQ.nd rfl (Gf rfl) (cP af))
      (ah (kd PassesOwn.never (aI gU (bb aV rfl Z.len bT (aa (pv 3) af)) (bb aV rfl Z.len bT (aa (bH (pv 2) rfl) af)) (aQ _))
      (ah (cV (aF aK (pv 0) (aF cy (bH (pv 2) rfl) (bb aV rfl Z.len bT (aa (pv 3) af)) (fun _ _=>rfl)) (fun _ _=>rfl)) (cU rfl (aR (aG (i:=4) eQ.nd rfl (Gf rfl)) (aR (aG (i:=5) eQ.nd rfl (Gf rfl)) cI))))
      (ah (md (i:=6) ["way"] ["row", "steads"] [2,1] rfl eQ.nd rfl rfl rfl (fX (aB O_ways_on (hr.mono (by decide)) rfl (aa (pv 5) af))) rfl (by decide +kernel) (by decide +kernel) (by decide +kernel) ⟨⟨rfl,.inl rfl,rfl⟩,⟨⟨rfl,.inl rfl,rfl⟩,True.intro⟩⟩ (fun _ _ _ _=>(aG (i:=0) (show ((["way"]:List Str)++(["row", "steads"]:List Str)).Nodup by decide +kernel) rfl (Gf rfl) (hf:=GO rfl))) (fun _ _ _ _=>gf) (fun _ _ _ _=>(gg O_Row_place_of (pv 1) (hr.mono (by decide)) (aa (aF (vE (K:=K) rfl) (pv 2) (pv 0) (fun _ _=>rfl)) af))))
      (av (cx (fb PySem.F.plainAttrs_list PySem.F.slot_list_append PySem.F.type_list_append cR (pv 3) (aa (bx (aa (pv 4) (aa (bC xl (aB O_without_ways (hr.mono (by decide)) rfl (aa (pv 5) af)) (bA bu rfl Z.tuple cb (aa (pv 6) af))) af))) af)))))))
      (av (aC (bx (aa (bA bu rfl Z.tuple cb (aa (pv 3) af)) (aa (bA bu rfl Z.tuple cb (aa (bH (pv 2) rfl) af)) af)))))))),?_⟩
    obtain⟨pp,vs,rfl,e1,r1⟩:=aX.bN hp
    have hvl:=r1.len
    rw [Gg] at hvl
    have hst:∀{j:Nat},j<ps.length->fw (vN ss) (j:Int)=some (V.int (gd ss j:Nat)):=fun {j} hj=>bI (by
      rw [GI,Hw (by omega:j<ss.length)]
      show _=some (V.int ((ss.getD j 0:Nat):Int))
      rw [Iu,Hw (by omega:j<ss.length)];rfl)
    have hsl':∀{j:Nat},j<ps.length->gd ss j<ps.length:=fun {j} hj=>by
      unfold gd
      rw [Iu,Hw (by omega:j<ss.length)]
      exact hss _ (Hz _)
    refine⟨_,rfl,l,_,0,_,rfl,rfl,aY.of hl,hst hn0,fun r dx nx ndx nex=>.inr ⟨r,dx,gd ss 0,rfl,ae,fun m d H1 A1 k1 nm nd=>⟨rfl,?_⟩⟩⟩
    have s0:ar H (upd (upd H dx (.own r)) r (.ins CR dx [])):=fun b o e=>by
      rw [ai (aw e nx),ai (aw e ndx)]
      exact e
    have s1:ar H H1:=fun c o e=>k1 c o (s0 c o e) (aw e nx)
    have nmH:H m=none:=s0.free nm
    have ndH:H d=none:=s0.free nd
    clear k1 nm nd s0
    refine⟨(by show 0<=sizeLine;decide),fun pz npz=>?_⟩
    have npzH:H pz=none:=s1.free npz
    have s2:=s1.trans (ar.new (o:=.lst []) npz)
    have A2:=A1.same (ar.new (o:=.lst []) npz)
    have npm:pz≠m:=(aw A1.mem npz).symm
    have npd:pz≠d:=by obtain⟨kvs,h,_⟩:=A1.jw;exact (aw h npz).symm
    have npr:pz≠r:=by obtain⟨dx,h⟩:=A1.ob;exact (aw h npz).symm
    have hz2:(upd H1 pz (.lst [])) pz=some (.lst []):=ae
    generalize (upd H1 pz (.lst []))=H2 at s2 A2 hz2
    clear A1 s1 npz
    refine⟨fun fu Gd H'=>∃(ms:List Nat) (outs:List Piece) (zs:List V) (u1 u2 u3:Option V),Gd=[some (.ref pp),some (.ref l),some (.ref r),some (.ref pz),u1,u2,u3]/\jK CR H' r m d ms/\H' pz=some (.lst zs)/\br H' zs (outs.map df)/\fB ps (gd ss) fu ms outs=fB ps (gd ss) ps.length [gd ss 0] []/\fu+outs.length=ps.length/\ms.Nodup/\(∀x∈ms,x<ps.length)/\outs.length<=ms.length/\ar H H',⟨ps.length,[gd ss 0],[],[],_,_,_,rfl,A2,hz2,.nil,rfl,rfl,by simp,(fun x hx=>by rw [Gp.mp hx];exact hsl' hn0),GK _,s2⟩,?_⟩
    rintro fu Gd H3 ⟨ms,outs,zs,u1,u2,u3,rfl,A3,hz3,rz3,hloop,hfu,mnd,mb,hom,s3⟩
    obtain⟨dx3,hob3⟩:=A3.ob
    have hzl:zs.length=outs.length:=by have:=rz3.len;rw [Gg] at this;exact this
    have hml:(vN ms).length=ms.length:=Gg ..
    have hmn:=dz mnd mb
    refine⟨_,rfl,pz,_,rfl,.inl (aY.of hz3),_,rfl,r,CR,dx3,_,_,rfl,hob3,TR.cl,TR.members,dN,m,_,rfl,.inl (aY.of A3.mem),_,_,rfl,rfl,_,rfl,?_⟩
    refine cZ (fun hc=>?_) (fun hc=>?_)
    . have hlt:outs.length<ms.length:=by have:=of_decide_eq_true hc;omega
      obtain⟨fu,rfl⟩:∃f',fu=f' + 1:=⟨fu-1,by omega⟩
      have hms:ms[outs.length]?=some ms[outs.length]:=by simp [hlt]
      have hkb:ms[outs.length]<ps.length:=mb _ (Hz _)
      generalize ms[outs.length]=kk at hms hkb
      have hps:ps[kk]?=some ps[kk]:=by simp [hkb]
      generalize ps[kk]=pce at hps
      rw [qR hms hps] at hloop
      obtain⟨ds,e⟩:=pce
      obtain⟨p',xs',pc,da,ea,ws,ep,e1',el',hx',e2,e3,r3,e4⟩:=eX hp hps
      cases ep
      rw [e1] at e1'
      cases e1'
      refine⟨_,fun σ' H' h=>⟨fu,G8 fu,h⟩,?_⟩
      refine⟨_,rfl,_,rfl,r,CR,dx3,_,_,rfl,hob3,TR.cl,TR.members,dN,_,rfl,pz,_,rfl,.inl (aY.of hz3),m,_,_,_,rfl,rfl,aY.of A3.mem,bI (j:=zs.length) (by rw [hzl,GI,hms];rfl),pp,_,_,_,rfl,rfl,ay.of (s3 _ _ e1),bI hx',pc,_,rfl,ay.of (s3 _ _ e2),rfl,_,_,rfl,_,_,rfl,rfl,?_⟩
      refine⟨_,rfl,ea,e,rfl,s3 _ _ e4,fun wt H4 hw s4=>⟨wt,rfl,⟨_,ay.of hw⟩,fun acc na=>?_⟩⟩
      have A4:=A3.same s4
      have hz4:=s4 _ _ hz3
      have nam:acc≠m:=(aw A4.mem na).symm
      have nad:acc≠d:=by obtain⟨kvs,h,_⟩:=A4.jw;exact (aw h na).symm
      have naz:acc≠pz:=(aw hz4 na).symm
      have nar:acc≠r:=by obtain⟨dx,h⟩:=A4.ob;exact (aw h na).symm
      have s24:=s3.trans s4
      have hwb:∀{j k:Nat},(aN e)[j]?=some k->k<ps.length:=fun {j k} hj=>by
        have h1:=hin _ (GJ hps)
        have h2:=GJ hj
        cases e with
        | stop=>cases h2
        | go p=>rw [Gp.mp h2];exact h1
        | cE b x n p p2 =>
          rcases Gu.mp h2 with z | z
          . rw [z];exact h1.1
          . rw [Gp.mp z];exact h1.2
      have hwl:(aN e).length<=2:=by cases e <;> (show _<=2) <;> simp [aN]
      generalize hks:(aN e).map (gd ss)=ks at hloop
      have hksl:ks.length=(aN e).length:=by rw [<-hks,Gg]
      refine nh (K:=K) (a:=wt) (xs:=(aN e).map fun k=>V.int (k:Nat)) (fun i ys Ge H'=>∃c:Option V,Ge=[c,some (.ref r),some (.ref l)]/\jK CR H' r m d (putAll ms (ks.take i))/\ys=vN ((ks.take i).map (putAll ms ks).idxOf)/\H' acc=some (.lst ys)/\gF m d H4 H') ?_ ?_ ?_ ?_
      . exact⟨none,rfl,A4.same (ar.new na),rfl,ae,gF.of_same (ar.new na)⟩
      . rintro i ys Ge H5 hi ⟨c,rfl,A5,rfl,ha,b5⟩
        refine⟨ay.of (A4.tup b5 hw),ha,?_⟩
        rw [Gg,Gg,G9]
        rw [Gg] at hi
        exact bF (by omega)
      . rintro i y ys Ge H5 hi ⟨c,rfl,A5,rfl,ha,b5⟩
        obtain⟨k0,hk0,rfl⟩:∃k,(aN e)[i]?=some k/\y=V.int (k:Nat):=by
          rw [GI] at hi
          cases z:(aN e)[i]? with
          | none=>rw [z] at hi;cases hi
          | some k=>rw [z] at hi;exact⟨k,rfl,(GL.inj hi).symm⟩
        have hk0b:=hwb hk0
        have hki:ks[i]?=some (gd ss k0):=by rw [<-hks,GI,hk0];rfl
        have hl5:H5 l=some (.lst (vN ss)):=b5 _ _ (s24 _ _ hl) (aw hl nmH) (aw hl ndH)
        obtain⟨dx5,hob5⟩:=A5.ob
        have hpl5:(putAll ms (ks.take i)).length<=1000:=by
          refine Gy (dz (kT mnd) (kC mb fun x hx=>?_)) hn
          have hx':=IY hx
          rw [<-hks] at hx'
          obtain⟨j,hj,rfl⟩:=GH.mp hx'
          obtain⟨jj,hjj⟩:=II hj
          exact hsl' (hwb hjj)
        refine dB ?_
        refine lh ?_
        refine cD ?_
        refine⟨_,rfl,r,dx5,_,rfl,hob5,nO,_,rfl,_,rfl,l,_,_,_,rfl,rfl,aY.of hl5,hst hk0b,.inr ⟨r,m,d,gd ss k0,_,rfl,A5,hpl5,fun H6 A6 b6=>?_⟩⟩
        have ha6:H6 acc=some (.lst (vN ((ks.take i).map (putAll ms ks).idxOf))):=b6 _ _ ha nam nad
        rw [z7 hki]
        refine⟨ha6,_,rfl,?_,?_,ae,fun c' o h c1 c2=>?_⟩
        . rw [G1,hki]
          show jK CR _ r m d (putAll ms (ks.take i++[gd ss k0]))
          rw [L2.putAll_snoc]
          refine A6.keep fun x u h z=>?_
          rw [ai ?_]
          . exact h
          . rcases z with rfl | rfl | rfl
            . exact nar.symm
            . exact nam.symm
            . exact nad.symm
        . rw [G1,hki]
          show _=((ks.take i++[gd ss k0]).map _).map _
          rw [Gz,Gz]
          rfl
        . rw [ai (aw h na)]
          exact (b5.trans b6) c' o h c1 c2
      rintro ys Ge H5 ⟨c,rfl,A5,rfl,ha,b5⟩
      have htk:ks.take ((aN e).map fun k=>V.int (k:Nat)).length=ks:=by rw [Gg,<-hksl,G7]
      rw [htk] at A5 ha
      have hhl:(jQ e).length<=3:=by cases e <;> simp [jQ]
      have hz5:H5 pz=some (.lst zs):=b5 _ _ hz4 npm npd
      have kt5:∀p xs,H4 p=some (.tup xs)->H5 p=some (.tup xs):=fun p xs h=>A4.tup b5 h
      have s5:ar H H5:=fun c o h=>b5 c o (s24 c o h) (aw h nmH) (aw h ndH)
      refine⟨_,rfl,.inl ⟨rfl,_,aY.of hz5⟩,_,rfl,_,rfl,ea,e,rfl,s5 _ _ e4,fun t H6 ht s6=>⟨_,rfl,acc,_,rfl,.inl ⟨aY.of (s6 _ _ ha),fun t2 nt2=>?_⟩⟩⟩
      have s7:=s6.trans (ar.new (o:=.tup (vN (ks.map (putAll ms ks).idxOf))) nt2)
      have ht7:=ar.new (o:=.tup (vN (ks.map (putAll ms ks).idxOf))) nt2 _ _ ht
      refine⟨t,t2,_,_,rfl,rfl,ht7,ae,(by rw [Gg,Gg,hksl];exact G3 (bF (by omega))),fun t3 H8 ht3 s8=>⟨ln2,fun t4 nt4=>?_⟩⟩
      rw [<-vz (by rw [Gg,hksl])] at ht3
      have s9:=(s7.trans s8).trans (ar.new (o:=.tup [.ref da,.ref t3]) nt4)
      have ht9:=ar.new (o:=.tup [.ref da,.ref t3]) nt4 _ _ ht3
      have h49:(upd H8 t4 (.tup [.ref da,.ref t3])) t4=some (.tup [.ref da,.ref t3]):=ae
      generalize (upd H8 t4 (.tup [.ref da,.ref t3]))=H9 at s9 ht9 h49
      have hz9:=s9 _ _ hz5
      refine⟨pz,_,_,rfl,rfl,hz9,bF (by omega),?_⟩
      have kt:∀p xs,H9 p=some (.tup xs)->(upd H9 pz (.lst (zs++[.ref t4]))) p=some (.tup xs):=fun p xs h=>by rw [ai (bB h hz9 (by intro z;cases z))];exact h
      have s59:=s5.trans s9
      refine⟨_,outs++[jG (ds,e) ks (putAll ms ks)],_,_,_,_,rfl,(A5.same s9).keep fun x u h z=>?_,ae,?_,hloop,(by rw [Gr];show fu+(_+1)=_;omega),kT mnd,kC mb fun x hx=>?_,?_,s59.put npzH⟩
      . rw [ai ?_]
        . exact h
        . rcases z with rfl | rfl | rfl
          . exact npr.symm
          . exact npm.symm
          . exact npd.symm
      . rw [Gz]
        refine br.app ((((rz3.same s4 (bg outs)).bp kt5 (bg outs)).same s9 (bg outs)).bp kt (bg outs)) ?_
        have rd4:aX H9 (.ref t4) (df (jG (ds,e) ks (putAll ms ks))):=.tup h49 (.cons (.tup (s59 _ _ e3) (r3.same s59 (cw ds))) (.cons (vA ht9) .nil))
        exact rd4.bp kt (gJ _)
      . rw [<-hks] at hx
        obtain⟨j,hj,rfl⟩:=GH.mp hx
        obtain⟨jj,hjj⟩:=II hj
        exact hsl' (hwb hjj)
      . obtain⟨more,em⟩:=jR ks ms
        rw [em,Gr,Gr]
        show _+1<=_
        omega
    . have hnl:¬outs.length<ms.length:=fun z=>hc (decide_eq_true (by omega))
      rw [tQ (HM (by omega))] at hloop
      rw [<-hloop] at q
      refine⟨_,rfl,pz,_,rfl,.inl ⟨aY.of hz3,fun t1 n1=>?_⟩⟩
      have q1:=ar.new (o:=.tup zs) n1
      refine⟨_,rfl,r,CR,dx3,_,_,rfl,q1 _ _ hob3,TR.cl,TR.members,dN,m,_,rfl,.inl ⟨aY.of (q1 _ _ A3.mem),fun t2 n2=>⟨ln2,fun t3 n3=>?_⟩⟩⟩
      have q2:=ar.new (o:=.tup (vN ms)) n2
      have q3:=ar.new (o:=.tup [.ref t1,.ref t2]) n3
      refine q (.ref t3) _ (.tup ae (.cons (.tup (q3 _ _ (q2 _ _ ae)) (rz3.same ((q1.trans q2).trans q3) (bg outs))) (.cons (.tup (q3 _ _ ae) (vD ms)) .nil))) (s3.trans ((q1.trans q2).trans q3))
theorem yP {f:Addr} {fd:FuncData} (F:bS K "is_idle" "is_idle" iH f fd) (Z:Bl mg)  : bh P w K mg base bQ 1 f fd ["piece"] vC:=by
 refine F.ok (k:=0) mL (fun vs H Q E h=>?_) (fun cdv A outer s H vs Q E hr h=>?_)
 ·obtain⟨pc,da,ea,ws,ds,e,rfl,_⟩:=h
  rfl
 ·obtain⟨pc,da,ea,ws,ds,e,rfl,hp,hd,hr0,he,q⟩:=h
  refine⟨_,(ah (cV (pv 0) (cU rfl (aR (aG (i:=1) mL.nd rfl (Gf rfl)) (aR (aG (i:=2) mL.nd rfl (Gf rfl)) cI))))
   (av (aC (uG (fH bP (bb aV rfl Z.len bT (aa (pv 1) af)) ao (aQ _)) (lF (fH bP (aF aK (pv 2) ao (fun _ _=>rfl)) bc (aQ _))))))),?_⟩
  refine⟨_,rfl,pc,_,rfl,ay.of hp,rfl,_,_,rfl,_,_,rfl,rfl,?_⟩
  have hl:=hr0.len
  rw [Gg] at hl
  refine⟨_,rfl,da,_,rfl,.inr (ay.of hd),rfl,_,rfl,?_⟩
  refine cZ (fun hc=>?_) (fun hc=>?_)
  ·have h0:(ws.length:Int)=0:=V.int.inj (of_decide_eq_true hc)
   have hds:ds=[]:=IP.mp (by omega)
   subst hds
   refine⟨_,rfl,ea,_,0,_,rfl,rfl,ay.of he,(by cases e <;> exact bM:fw (fg e) 0=some (V.str (wE e))),rfl,?_⟩
   cases e with
   | stop =>
    rw [show decide (V.str (wE End.stop)=V.str "go")=false by decide +kernel]
    exact q
   | go p =>
    rw [show decide (V.str (wE (End.go p))=V.str "go")=true from decide_eq_true rfl]
    exact q
   | cE b x n p p2 =>
    rw [show decide (V.str (wE (End.cE b x n p p2))=V.str "go")=false from (show decide (V.str (wT b)=V.str "go")=false by cases b <;> decide +kernel)]
    exact q
  ·have hds:ds≠[]:=fun z=>hc (decide_eq_true (by rw [hl,z];rfl))
   cases ds with
   | nil=>exact absurd rfl hds
   | cons _ _=>exact q
theorem wz {f:Addr} {fd:FuncData} (F:bS K "followed" "followed" hX f fd) (Z:Bl mg) (O_is_idle:Own P w K mg base "is_idle" 1 ["piece"] vC):bh P w K mg base bQ 3 f fd ["plan", "at"] mC:=by
  refine F.ok (k:=2) jl (fun vs H Q E h=>?_) (fun cdv A outer s H vs Q E hr h=>?_)
  . obtain⟨plv,ps,k,rfl,_⟩:=h
    rfl
  . obtain⟨plv,ps,k,rfl,hp,hin,hk,hn,q⟩:=h
    refine⟨_,(ah (aT (i:=2) jl.nd rfl (Gf rfl) (cP af))
      (ah (aT (i:=3) jl.nd rfl (Gf rfl) (qi tG rfl Z.set vq))
      (ah (kd PassesOwn.never (j9 (aB O_is_idle (hr.mono (by decide)) rfl (aa (aF aK (pv 0) (pv 1) (fun _ _=>rfl)) af)))
      (ah (bw (aI Ee (pv 1) (pv 3) (by with_unfolding_all rfl))
      (av (aC (bb (z6 rfl) rfl Z.min qo (aa (km CG (pv 2) (lI (fb PySem.F.plainAttrs_list PySem.F.slot_list_index PySem.F.type_list_index Bw (pv 2) (aa (pv 1) af))) lH) af))))
      bf)
      (ah (cx (vt PySem.F.slot_set_add PySem.F.type_set_add se (pv 3) (aa (pv 1) af)))
      (ah (cx (fb PySem.F.plainAttrs_list PySem.F.slot_list_append PySem.F.type_list_append cR (pv 2) (aa (pv 1) af)))
      (av (aT (i:=1) jl.nd rfl (Gf rfl) (aF aK (aF aK (aF aK (pv 0) (pv 1) (fun _ _=>rfl)) ao (fun _ _=>rfl)) ao (fun _ _=>rfl))))))))
      (av (aC (pv 1)))))),?_⟩
    obtain⟨pp,vs,rfl,e1,r1⟩:=aX.bN hp
    have hvl:=r1.len
    rw [Gg] at hvl
    refine⟨(by show 0<=sizeLine;decide),fun pl npl=>⟨rfl,fun fs nfs=>?_⟩⟩
    have s1:=ar.new (o:=.lst []) npl
    have hpl1:(upd H pl (.lst [])) pl=some (.lst []):=ae
    generalize (upd H pl (.lst []))=H1 at s1 hpl1 nfs
    change (_:Hp->Prop) (upd H1 fs (bW P w fs []))
    have s2:=ar.new (o:=bW P w fs []) nfs
    have hfs2:(upd H1 fs (bW P w fs [])) fs=some (bW P w fs []):=ae
    have hpl2:=s2 _ _ hpl1
    have npf:pl≠fs:=aw hpl1 nfs
    generalize (upd H1 fs (bW P w fs []))=H2 at s2 hfs2 hpl2
    have kpl:∀{at_ i:Nat} {pc:Piece} {H':Hp},ps[at_]?=some pc->True:=fun _=>trivial
    refine⟨fun m Gd H'=>∃(at_:Nat) (aH:List Nat),Gd=[some (.ref pp),some (.int (at_:Nat)),some (.ref pl),some (.ref fs)]/\H' pl=some (.lst (vN aH))/\H' fs=some (bW P w fs (aH.map fun k:Nat=>(Sum.inl (k:Int):Key)))/\kB ps m at_ aH=cg ps k/\aH.Nodup/\(∀x∈aH,x<ps.length)/\m+aH.length=ps.length+1/\at_<ps.length/\ar H H',⟨ps.length+1,k,[],rfl,hpl2,hfs2,rfl,HB,(fun _ h=>nomatch h),by simp,hk,s1.trans s2⟩,?_⟩
    rintro m Gd H3 ⟨at_,aH,rfl,h1,h2,hf,nd,hb',hm,hat,s3⟩
    have hps:ps[at_]?=some ps[at_]:=by simp [hat]
    generalize hpc:ps[at_]=pc at hps
    obtain⟨ds,e⟩:=pc
    obtain⟨p',xs',pc,da,ea,ws,ep,e1',el',hx',e2,e3,r3,e4⟩:=eX hp hps
    cases ep
    rw [e1] at e1'
    cases e1'
    have hfew:=dz nd hb'
    obtain⟨m,rfl⟩:∃m',m=m' + 1:=⟨m-1,by omega⟩
    refine⟨_,rfl,_,rfl,pp,_,_,_,rfl,rfl,ay.of (s3 _ _ e1),bI hx',pc,da,ea,ws,ds,e,rfl,s3 _ _ e2,s3 _ _ e3,r3.same s3 (cw ds),s3 _ _ e4,_,rfl,?_⟩
    refine cZ (fun hi=>?_) (fun hi=>?_)
    . obtain⟨n,en⟩:=ow hi
      cases en
      rw [nP hps] at hf
      refine⟨_,fun σ' H' h=>⟨m,G8 m,h⟩,?_⟩
      refine⟨_,rfl,_,rfl,fs,_,Sum.inl (at_:Int),rfl,h2,rfl,fun b hb=>⟨_,rfl,?_⟩⟩
      have hbm:b=true↔at_∈aH:=by
        rw [hb,GH]
        constructor
        . rintro⟨x,hx,e⟩
          have:=Sum.inl.inj e
          rw [show at_=x by omega];exact hx
        . intro hx;exact⟨at_,hx,rfl⟩
      refine cZ (fun hc=>?_) (fun hc=>?_)
      . have hmem:=hbm.mp hc
        rw [if_pos hmem] at hf
        have evn:vN aH=(aH.map fun k:Nat=>(k:Int)).map V.int:=by rw [Hu];rfl
        have eix:(aH.map fun k:Nat=>(k:Int)).idxOf (at_:Int)=aH.idxOf at_:=by
          clear hf hb hbm nd hb' hm hfew h1 h2 evn
          induction aH with
          | nil=>rfl
          | cons x l ih =>
            rw [GS,Ig,Ig]
            by_cases e:x=at_
            . subst e;simp
            . have e':¬(x:Int)=(at_:Int):=by omega
              rcases Gu.mp hmem with z | z
              . exact absurd z.symm e
              . simp only [beq_false_of_ne e,beq_false_of_ne e',cond_false];rw [ih z]
        have hlt:aH.idxOf at_<aH.length:=HC hmem
        refine⟨_,rfl,_,rfl,.inl ⟨rfl,_,aY.of h1⟩,_,rfl,pl,aH.map (fun k:Nat=>(k:Int)),(at_:Int),rfl,rfl,by rw [h1,evn],GH.mpr ⟨at_,hmem,rfl⟩,_,rfl,pl,_,rfl,aY.of h1,fun t nt=>?_⟩
        have ecut:fC (vN aH) (some (((aH.map fun k:Nat=>(k:Int)).idxOf (at_:Int):Nat):Int)) none=((aH.drop (aH.idxOf at_)).map fun k:Nat=>(k:Int)).map V.int:=by
          rw [evn,eix,vx (by rw [Gg];omega),<-List.map_drop]
        rw [ecut]
        refine⟨t,_,rfl,aY.of ae,(by rw [Gg,HS];omega),fun M m1 m2=>?_⟩
        rw [C5 m1 m2,hf]
        exact q _ (s3.trans (ar.new nt))
      . have hmem:¬at_∈aH:=fun z=>hc (hbm.mpr z)
        rw [if_neg hmem] at hf
        have hnk:¬(Sum.inl (at_:Int):Key)∈aH.map fun k:Nat=>(Sum.inl (k:Int):Key):=fun z=>hc (hb.mpr z)
        refine⟨_,rfl,⟨fs,_,rfl,h2⟩,_,rfl,fs,_,Sum.inl (at_:Int),rfl,rfl,h2,(by rw [Gg];exact HH (show aH.length+1<=1002 by omega) (by decide)),?_⟩
        have eput:LS.putIn (aH.map fun k:Nat=>(Sum.inl (k:Int):Key)) (Sum.inl (at_:Int))=(aH++[at_]).map fun k:Nat=>(Sum.inl (k:Int):Key):=by
          unfold LS.putIn;rw [if_neg hnk,Gz];rfl
        rw [eput]
        change (_:Hp->Prop) (upd H3 fs (bW P w fs ((aH++[at_]).map fun k:Nat=>(Sum.inl (k:Int):Key))))
        have h14:(upd H3 fs (bW P w fs ((aH++[at_]).map fun k:Nat=>(Sum.inl (k:Int):Key)))) pl=some (.lst (vN aH)):=by rw [ai npf];exact h1
        refine⟨_,rfl,.inl ⟨rfl,_,aY.of h14⟩,_,rfl,pl,_,_,rfl,rfl,h14,bF (by rw [Gg];omega),?_⟩
        have s5:ar H (upd (upd H3 fs (bW P w fs ((aH++[at_]).map fun k:Nat=>(Sum.inl (k:Int):Key)))) pl (.lst (vN aH++[.int (at_:Nat)]))):=(s3.put (s1.free nfs)).put npl
        have hpl5:(upd (upd H3 fs (bW P w fs ((aH++[at_]).map fun k:Nat=>(Sum.inl (k:Int):Key)))) pl (.lst (vN aH++[.int (at_:Nat)]))) pl=some (.lst (vN (aH++[at_]))):=by rw [ae];show _=some (HO.lst ((aH++[at_]).map _));rw [Gz];rfl
        have hfs5:(upd (upd H3 fs (bW P w fs ((aH++[at_]).map fun k:Nat=>(Sum.inl (k:Int):Key)))) pl (.lst (vN aH++[.int (at_:Nat)]))) fs=some (bW P w fs ((aH++[at_]).map fun k:Nat=>(Sum.inl (k:Int):Key))):=by rw [ai npf.symm,ae]
        generalize (upd (upd H3 fs (bW P w fs ((aH++[at_]).map fun k:Nat=>(Sum.inl (k:Int):Key)))) pl (.lst (vN aH++[.int (at_:Nat)])))=H5 at s5 hpl5 hfs5
        refine⟨_,rfl,_,rfl,pp,_,_,_,rfl,rfl,ay.of (s5 _ _ e1),bI hx',pc,_,1,_,rfl,rfl,ay.of (s5 _ _ e2),cW,ea,_,1,_,rfl,rfl,ay.of (s5 _ _ e4),cW,?_⟩
        have hnlt:n<ps.length:=by
          have:=hin _ (GJ hps)
          exact this
        refine⟨n,aH++[at_],rfl,hpl5,hfs5,hf,?_,?_,(by rw [Gr];show m+(_+1)=_;omega),hnlt,s5⟩
        . rw [Hv]
          refine⟨nd,by simp,fun x hx y hy z=>?_⟩
          rw [Gp.mp hy] at z
          exact hmem (z ▸ hx)
        . intro x hx
          rcases GW.mp hx with hx | hx
          . exact hb' x hx
          . rw [Gp.mp hx];exact hat
    . rw [mz hps (IQ.mpr hi)] at hf
      refine⟨_,rfl,?_⟩
      rw [hf]
      exact q _ s3
theorem BN {f:Addr} {fd:FuncData} (F:bS K "short" "short" j4 f fd) (Z:Bl mg) (O_followed:Own P w K mg base "followed" 3 ["plan", "at"] mC) (O_with_steads:Own P w K mg base "with_steads" 5 ["plan", "steads"] pO):bh P w K mg base bQ 6 f fd ["plan"] sj:=by
 refine F.ok (k:=5) BH (fun vs H Q E h=>?_) (fun cdv A outer s H vs Q E hr h=>?_)
 ·obtain⟨plv,ps,rfl,_⟩:=h
  rfl
 ·obtain⟨plv,ps,rfl,hp,hin,hn0,hn,q⟩:=h
  refine⟨_,(av (aC (aB O_with_steads (hr.mono (by decide)) rfl (aa (pv 0) (aa (fR ["at"] ["plan"] [0] rfl (fo rfl Z.range (aa (bb aV rfl Z.len bT (aa (pv 0) af)) af)) rfl (by decide +kernel) (by decide +kernel) (by decide +kernel) ⟨⟨rfl,.inl rfl,rfl⟩,True.intro⟩ (fun _ _ _ _=>(aG (i:=0) (show ((["at"]:List Str)++(["plan"]:List Str)).Nodup by decide +kernel) rfl (Gf rfl) (hf:=GO rfl))) (fun _ _ _ _=>gf) (fun _ _ _ _=>(aB O_followed (hr.mono (by decide)) rfl (aa (pv 1) (aa (pv 0) af))))) af))))),?_⟩
  obtain⟨pp,vs,rfl,e1,r1⟩:=aX.bN hp
  have hvl:=r1.len
  rw [Gg] at hvl
  refine⟨_,rfl,_,rfl,pp,_,rfl,.inr (ay.of e1),_,rfl,(by omega),(by omega),fun acc na=>?_⟩
  refine me (lo:=0) (fun i ys Ge H'=>∃v:Option V,Ge=[v,some (.ref pp)]/\ys=vN ((fe ps).take i)/\H' acc=some (.lst ys)/\ar H H') ?_ ?_ ?_ ?_
  ·exact⟨none,rfl,rfl,ae,ar.new na⟩
  ·rintro i ys Ge H1 hi ⟨v,rfl,rfl,ha,s1⟩
   refine⟨ha,bF ?_⟩
   rw [Gg,G9]
   omega
  ·rintro i ys Ge H1 hi ⟨v,rfl,rfl,ha,s1⟩
   refine dB ?_
   refine lh ?_
   refine cD ?_
   refine⟨_,rfl,_,rfl,_,ps,i,by rw [Int.zero_add];rfl,hp.same s1 (cK ps),hin,(by omega),hn,fun H2 s2=>?_⟩
   refine⟨s2 _ _ ha,_,rfl,?_,ae,(s1.trans s2).put na⟩
   have:(fe ps)[i]?=some (cg ps i):=by unfold fe;rw [GI,Ia (by omega)];rfl
   rw [G1,this]
   show _=((fe ps).take i++[cg ps i]).map _
   rw [Gz];rfl
  ·rintro ys Ge H1 ⟨v,rfl,rfl,ha,s1⟩
   have el:(fe ps).length=ps.length:=by unfold fe;rw [Gg,HY]
   rw [IA (by omega)] at ha
   refine⟨_,acc,ps,fe ps,rfl,hp.same s1 (cK ps),hin,?_,el,hn0,hn,fun k hk=>?_,fun v H2 r2 s2=>q v H2 r2 (s1.trans s2)⟩
   ·exact ha
   ·unfold fe at hk
    obtain⟨j,hj,rfl⟩:=GH.mp hk
    exact si hin (Ho.mp hj)
theorem vU {f:Addr} {fd:FuncData} (F:bS K "answer_of" "answer_of" gm f fd) (Z:Bl mg) (O_part_of:Own P w K mg base "part_of" 3 ["stretch", "word", "number", "side"] (ox K)):bh P w K mg base bQ 4 f fd ["stretch", "word", "number"] yc:=by
  refine F.ok (k:=3) vR (fun vs H Q E h=>?_) (fun cdv A outer s H vs Q E hr h=>?_)
  . obtain⟨p,w,n,lo,hi,rfl,_⟩:=h
    rfl
  . obtain⟨p,w,n,lo,hi,rfl,hp,q⟩:=h
    refine⟨_,(ah (bw (gG (iL (aB O_part_of (hr.mono (by decide)) rfl (aa (pv 0) (aa (pv 1) (aa (pv 2) (aa iK af)))))))
      (av (aC bc))
      bf)
      (ah (bw (gG (iL (aB O_part_of (hr.mono (by decide)) rfl (aa (pv 0) (aa (pv 1) (aa (pv 2) (aa iK af)))))))
      (av (aC bc))
      bf)
      (av (aC bc)))),?_⟩
    refine⟨_,rfl,_,rfl,_,rfl,p,w,n,false,lo,hi,rfl,ay.of hp,fun v H1 r s1=>⟨_,rfl,?_⟩⟩
    cases e:dM w lo hi n false with
    | none =>
      rw [e] at r
      cases (show v=V.bL from r)
      exact cD (by have q':=q H1 s1;rw [e] at q';exact q')
    | some ab =>
      rw [e] at r
      obtain⟨a,b⟩:=ab
      obtain⟨l,rfl,hl⟩:=r
      refine cq ?_
      refine⟨_,rfl,_,rfl,_,rfl,p,w,n,true,lo,hi,rfl,ay.of (s1 _ _ hp),fun v2 H2 r2 s2=>⟨_,rfl,?_⟩⟩
      cases e2:dM w lo hi n true with
      | none =>
        rw [e2] at r2
        cases (show v2=V.bL from r2)
        exact cD (by have q':=q H2 (s1.trans s2);rw [e,e2] at q';exact q')
      | some cd =>
        rw [e2] at r2
        obtain⟨c,d⟩:=cd
        obtain⟨l2,rfl,hl2⟩:=r2
        exact cq (by have q':=q H2 (s1.trans s2);rw [e,e2] at q';exact q')
theorem sN {f:Addr} {fd:FuncData} (F:bS K "worth" "Stand.worth" fm f fd) (Z:Bl mg) {C:Addr} (T:lN K C)  : bh P w K mg base bQ 1 f fd ["self", "name"] (oi C):=by
 refine F.ok (k:=0) sJ (fun vs H Q E h=>?_) (fun cdv A outer s H vs Q E hr h=>?_)
 ·obtain⟨p,pl,d,nl,sl,plv,nums,S,m,x,rfl,_⟩:=h
  rfl
 ·obtain⟨p,pl,d,nl,sl,plv,nums,S,m,x,rfl,A,q⟩:=h
  refine⟨_,(av (aC (fQ (dn hr) (bH (pv 0) rfl) (pv 1) ao ⟨rfl,rfl,rfl,rfl⟩))),?_⟩
  obtain⟨dx,hob⟩:=A.ob
  obtain⟨kvs,hd,dw,hk⟩:=A.dict
  exact⟨_,rfl,p,C,dx,_,_,rfl,hob,T.cl,T.gM,ju,d,rfl,.inl ⟨kvs,.inl hd⟩,_,rfl,_,_,dU.k (k:=Sum.inr x) hd,dw x,q⟩
theorem q9 {f:Addr} {fd:FuncData} (F:bS K "coming" "Stand.coming" eS f fd) (Z:Bl mg) {C:Addr} (T:lN K C)  : bh P w K mg base bQ 1 f fd ["self"] (pC C):=by
 refine F.ok (k:=0) iW (fun vs H Q E h=>?_) (fun cdv A outer s H vs Q E hr h=>?_)
 ·obtain⟨p,pl,d,nl,sl,plv,nums,S,m,ps,ds,e,rfl,_⟩:=h
  rfl
 ·obtain⟨p,pl,d,nl,sl,plv,nums,S,m,ps,ds,e,rfl,A,hp,hx,q⟩:=h
  refine⟨_,(ah (cG (cV (aF aK (bH (pv 0) rfl) (aF cy (bH (pv 0) rfl) (BY y8 ao) (fun _ _=>rfl)) (fun _ _=>rfl)) (cU rfl (aR (aG (i:=1) iW.nd rfl (Gf rfl)) (aR (aG (i:=2) iW.nd rfl (Gf rfl)) cI)))))
   (av (aC (eB (aI gU (bH (pv 0) rfl) (bb aV rfl Z.len bT (aa (pv 1) af)) (aQ _)) (aF aK (pv 1) (bH (pv 0) rfl) (fun _ _=>rfl)) (pv 2))))),?_⟩
  obtain⟨dx,hob⟩:=A.ob
  obtain⟨pp,xs,pc,da,ea,vs,rfl,e1,el,hx',e2,e3,r3,e4⟩:=eX hp hx
  have hvl:vs.length=ds.length:=by rw [r3.len,Gg]
  refine⟨fun σ' H'=>σ' = [some (.ref p),some (.ref da),some (.ref ea)]/\H=H',⟨_,rfl,p,C,dx,_,_,rfl,hob,T.cl,T.pieces,tq,_,rfl,p,C,dx,_,_,rfl,hob,T.cl,T.aH,nz,_,rfl,pl,_,_,_,rfl,rfl,aY.of A.aH,A.xg,pp,xs,_,_,rfl,rfl,ay.of e1,bI hx',pc,_,rfl,ay.of e2,rfl,_,_,rfl,_,_,rfl,rfl,rfl,rfl⟩,?_⟩
  rintro σ' H' ⟨rfl,rfl⟩
  refine⟨_,rfl,p,C,dx,_,_,rfl,hob,T.cl,T.place,fS,_,rfl,da,_,rfl,.inr (ay.of e3),_,_,rfl,rfl,_,rfl,?_⟩
  refine cZ (fun hc=>?_) (fun hc=>?_)
  ·have hlt:S.place<vs.length:=by have:=of_decide_eq_true hc;omega
   have hdd:ds[S.place]?=some (ds[S.place]'(by omega)):=by simp [show S.place<ds.length by omega]
   generalize hde:ds[S.place]'(by omega)=dd at hdd
   obtain⟨v,hv,rd⟩:=r3.get (i:=S.place) (d:=dI dd) (by rw [GI,hdd];rfl)
   obtain⟨dp,rfl,hdp⟩:=lM rd
   exact⟨_,rfl,_,rfl,p,C,dx,_,_,rfl,hob,T.cl,T.place,fS,da,_,_,_,rfl,rfl,ay.of e3,bI hv,q _ (.D2 dd dp hdd rfl hdp)⟩
  ·have hge:¬S.place<vs.length:=fun z=>hc (decide_eq_true (by omega))
   exact⟨_,rfl,q _ (.end_ ea (by simp;omega) rfl e4)⟩
theorem lY {f:Addr} {fd:FuncData} (F:bS K "lacks_number" "Stand.lacks_number" cO f fd) (Z:Bl mg) {C:Addr} (T:lN K C) (O_Stand_coming:eE P w K mg base C "coming" 1 ["self"] (pC C)):bh P w K mg base bQ 2 f fd ["self"] (rS C):=by
 refine F.ok (k:=1) lX (fun vs H Q E h=>?_) (fun cdv A outer s H vs Q E hr h=>?_)
 ·obtain⟨p,pl,d,nl,sl,plv,nums,S,m,ps,rfl,_⟩:=h
  rfl
 ·obtain⟨p,pl,d,nl,sl,plv,nums,S,m,ps,rfl,A,hp,hpc,q⟩:=h
  refine⟨_,(av (aC (uG (fH bP (aF aK (kq O_Stand_coming (pv 0) (hr.mono (by decide))) ao (fun _ _=>rfl)) bc (aQ _)) (lF (fH bP (bH (pv 0) rfl) (bb aV rfl Z.len bT (aa (bH (pv 0) rfl) af)) (aQ _)))))),?_⟩
  obtain⟨dx,hob⟩:=A.ob
  have hx:ps[S.aP]?=some ps[S.aP]:=by simp [hpc]
  generalize hpe:ps[S.aP]=pe at hx
  obtain⟨ds,e⟩:=pe
  unfold gY at q
  rw [hx] at q
  dsimp only at q
  refine⟨_,rfl,p,dx,_,rfl,hob,zy,p,pl,d,nl,sl,plv,nums,S,m,ps,ds,e,rfl,A,hp,hx,fun v hv=>?_⟩
  cases hv with
  | D2 dd w h hv hw =>
   subst hv
   rw [h] at q
   dsimp only at q
   cases dd
   case read x =>
    refine⟨w,_,0,_,rfl,rfl,ay.of hw,bM,rfl,_,rfl,?_⟩
    refine bZ (show decide (V.str "read" = V.str "read")=true by decide +kernel) ?_
    refine⟨_,rfl,p,C,dx,_,_,rfl,hob,T.cl,T.taken,pB,_,rfl,p,C,dx,_,_,rfl,hob,T.cl,T.rR,qA,nl,_,rfl,.inl (aY.of A.nums),rfl,?_⟩
    have ez:decide (V.int (S.taken:Int)=V.int ((nums.map V.int).length:Nat))=(lO (.read x)&&decide (S.taken=nums.length)):=by
     rw [rB,Gg]
     show _=decide (S.taken=nums.length)
     by_cases hh:S.taken=nums.length
     ·rw [hh];simp
     ·rw [decide_eq_false hh]
      exact beq_false_of_ne fun z=>hh (by omega)
    rw [ez]
    exact q
   case put x n =>
    refine⟨w,_,0,_,rfl,rfl,ay.of hw,bM,rfl,_,rfl,?_⟩
    exact aU (show decide (V.str "put" = V.str "read")=false by decide +kernel) q
   case copy x n =>
    refine⟨w,_,0,_,rfl,rfl,ay.of hw,bM,rfl,_,rfl,?_⟩
    exact aU (show decide (V.str "copy" = V.str "read")=false by decide +kernel) q
   case add x n =>
    refine⟨w,_,0,_,rfl,rfl,ay.of hw,bM,rfl,_,rfl,?_⟩
    exact aU (show decide (V.str "add" = V.str "read")=false by decide +kernel) q
   case tell x =>
    refine⟨w,_,0,_,rfl,rfl,ay.of hw,bM,rfl,_,rfl,?_⟩
    exact aU (show decide (V.str "tell" = V.str "read")=false by decide +kernel) q
  | end_ w h hv hw =>
   subst hv
   rw [h] at q
   dsimp only at q
   cases e
   case stop =>
    refine⟨w,_,0,_,rfl,rfl,ay.of hw,bM,rfl,_,rfl,?_⟩
    exact aU (show decide (V.str "stop" = V.str "read")=false by decide +kernel) q
   case go x =>
    refine⟨w,_,0,_,rfl,rfl,ay.of hw,bM,rfl,_,rfl,?_⟩
    exact aU (show decide (V.str "go" = V.str "read")=false by decide +kernel) q
   case cE b x n u v =>
    refine⟨w,_,0,_,rfl,rfl,ay.of hw,bM,rfl,_,rfl,?_⟩
    refine aU ?_ q
    cases b
    ·show decide (V.str "is" = V.str "read")=false
     decide +kernel
    ·show decide (V.str "less" = V.str "read")=false
     decide +kernel
theorem pZ {f:Addr} {fd:FuncData} (F:bS K "is_held" "Stand.is_held" d7 f fd) (Z:Bl mg) {C:Addr} (T:lN K C) (O_Stand_lacks_number:eE P w K mg base C "lacks_number" 2 ["self"] (rS C)):bh P w K mg base bQ 3 f fd ["self"] (va C):=by
 refine F.ok (k:=2) pV (fun vs H Q E h=>?_) (fun cdv A outer s H vs Q E hr h=>?_)
 ·obtain⟨p,pl,d,nl,sl,plv,nums,S,m,ps,rfl,_⟩:=h
  rfl
 ·obtain⟨p,pl,d,nl,sl,plv,nums,S,m,ps,rfl,A,hp,hpc,q⟩:=h
  refine⟨_,(av (aC (xM (bH (pv 0) rfl) (lF (kq O_Stand_lacks_number (pv 0) (hr.mono (by decide))))))),?_⟩
  obtain⟨dx,hob⟩:=A.ob
  unfold fc at q
  refine⟨_,rfl,p,C,dx,_,_,rfl,hob,T.cl,T.over,xf,_,rfl,?_⟩
  cases ho:decide (S.word=("stop" : Str)) with
  | true =>
   refine bZ rfl ?_
   rw [ho] at q
   exact q
  | false =>
   refine aU rfl ?_
   rw [ho] at q
   exact⟨_,rfl,p,dx,_,rfl,hob,qB,p,pl,d,nl,sl,plv,nums,S,m,ps,rfl,A,hp,hpc,q⟩
theorem mO {f:Addr} {fd:FuncData} (F:bS K "take_number" "Stand.take_number" cS f fd) (Z:Bl mg) {C:Addr} (T:lN K C)  : bh P w K mg base bQ 1 f fd ["self"] (rT C):=by
 refine F.ok (k:=0) mM (fun vs H Q E h=>?_) (fun cdv A outer s H vs Q E hr h=>?_)
 ·obtain⟨p,pl,d,nl,sl,plv,nums,S,m,n,rfl,_⟩:=h
  rfl
 ·obtain⟨p,pl,d,nl,sl,plv,nums,S,m,n,rfl,A,hn,q⟩:=h
  refine⟨_,(ah (sS (pv 0) ao zc)
   (av (aC (aF cy (bH (pv 0) rfl) (bC gH (bH (pv 0) rfl) ao) (fun _ _=>rfl))))),?_⟩
  obtain⟨dx,hob⟩:=A.ob
  refine⟨_,rfl,p,C,dx,_,_,rfl,hob,T.cl,T.taken,pB,_,_,rfl,rfl,dx,_,hob,(by show 8<1000;decide),?_⟩
  have A1:bE C (upd H p (.ins C dx (cF "taken" (.int ((S.taken:Int)+1)) (fz plv (.ref pl) (.int S.place) (.ref d) (.ref nl) (.int S.taken) (.ref sl) (.bl (decide (S.word = "stop"))))))) p pl d nl sl plv nums { S with taken:=S.taken+1 } m :=
   A.obj (by rw [AU];rfl) rfl rfl rfl rfl
  have q1:=q _ A1 cu.kM
  clear q
  revert A1 q1
  generalize (upd H p (.ins C dx (cF "taken" (.int ((S.taken:Int)+1)) (fz plv (.ref pl) (.int S.place) (.ref d) (.ref nl) (.int S.taken) (.ref sl) (.bl (decide (S.word = "stop")))))))=H1
  intro A1 q1
  obtain⟨dx1,hob1⟩:=A1.ob
  refine⟨_,rfl,p,C,dx1,_,_,rfl,hob1,T.cl,T.rR,qA,_,rfl,p,C,dx1,_,_,rfl,hob1,T.cl,T.taken,pB,_,_,rfl,rfl,nl,_,_,_,rfl,rfl,aY.of A1.nums,?_,q1⟩
  have e1:(((S.taken+1:Nat):Int)-1)=(S.taken:Nat):=by omega
  show fw (nums.map V.int) (((S.taken+1:Nat):Int)-1)=some (V.int n)
  rw [e1]
  exact bI (by rw [GI,hn];rfl)
theorem p4 {f:Addr} {fd:FuncData} (F:bS K "do_deed" "Stand.do_deed" d8 f fd) (Z:Bl mg) {C:Addr} (T:lN K C) (O_Stand_worth:eE P w K mg base C "worth" 1 ["self", "name"] (oi C)) (O_Stand_take_number:eE P w K mg base C "take_number" 1 ["self"] (rT C)):bh P w K mg base bQ 2 f fd ["self", "deed"] (pD C):=by
  refine F.ok (k:=1) kH (fun vs H Q E h=>?_) (fun cdv A outer s H vs Q E hr h=>?_)
  . obtain⟨p,pl,d,nl,sl,w,plv,nums,S,m,dd,rfl,_⟩:=h
    rfl
  . obtain⟨p,pl,d,nl,sl,w,plv,nums,S,m,dd,rfl,A,hw,hrd,hm,q⟩:=h
    refine⟨_,(ah (cG (y3 (i:=2) (j:=3) rfl kH.nd rfl rfl (by decide) rfl rfl (aa (aF aK (pv 1) ao (fun _ _=>rfl)) (aa (aF aK (pv 1) ao (fun _ _=>rfl)) af)) rfl))
      (ah (bw (aI bP (pv 2) bc (aQ _))
      (av (fI (dn hr) (bH (pv 0) rfl) (pv 3) (aF aK (pv 1) ao (fun _ _=>rfl)) rfl))
      (av (bw (aI bP (pv 2) bc (aQ _))
      (av (fI (dn hr) (bH (pv 0) rfl) (pv 3) (gg O_Stand_worth (pv 0) (hr.mono (by decide)) (aa (aF aK (pv 1) ao (fun _ _=>rfl)) af)) rfl))
      (av (bw (aI bP (pv 2) bc (aQ _))
      (av (fI (dn hr) (bH (pv 0) rfl) (pv 3) (bC dm (gg O_Stand_worth (pv 0) (hr.mono (by decide)) (aa (pv 3) af)) (aF aK (pv 1) ao (fun _ _=>rfl))) rfl))
      (av (bw (aI bP (pv 2) bc (aQ _))
      (av (fI (dn hr) (bH (pv 0) rfl) (pv 3) (kq O_Stand_take_number (pv 0) (hr.mono (by decide))) rfl))
      (av (cx (fb PySem.F.plainAttrs_list PySem.F.slot_list_append PySem.F.type_list_append cR (bH (pv 0) rfl) (aa (gg O_Stand_worth (pv 0) (hr.mono (by decide)) (aa (pv 3) af)) af)))))))))))
      (av (sS (pv 0) ao zc)))),?_⟩
    obtain⟨dx,hob⟩:=A.ob
    obtain⟨kvs,hd,dw,hk⟩:=A.dict
    cases dd
    case put x n =>
        refine⟨fun σ' H'=>σ' = [some (.ref p),some (.ref w),some (.str "put"),some (.str x)]/\H=H',⟨_,rfl,w,_,0,_,rfl,rfl,ay.of hw,bM,_,rfl,w,_,1,_,rfl,rfl,ay.of hw,cW,_,_,rfl,rfl,rfl⟩,?_⟩
        rintro σ' H' ⟨rfl,rfl⟩
        refine⟨_,rfl,rfl,_,rfl,?_⟩
        refine bZ (show decide (V.str "put" = V.str "put")=true by decide +kernel) ?_
        refine⟨_,rfl,w,_,2,_,rfl,rfl,ay.of hw,at2,_,rfl,p,C,dx,_,_,rfl,hob,T.cl,T.gM,ju,_,rfl,d,_,rfl,iu.k (k:=Sum.inr x) hd (cM (by omega)),?_⟩
        have A1:=A.gM (x:=x) (n:=n) hd dw hk
        obtain⟨dx1,hob1⟩:=A1.ob
        refine⟨_,rfl,p,C,dx1,_,_,rfl,hob1,T.cl,T.place,fS,_,_,rfl,rfl,dx1,_,hob1,(by show 8<1000;decide),?_⟩
        exact q _ (A1.obj (by rw [i5];rfl) rfl rfl rfl rfl) (cu.jN.trans cu.kM)
    case copy x y =>
        refine⟨fun σ' H'=>σ' = [some (.ref p),some (.ref w),some (.str "copy"),some (.str x)]/\H=H',⟨_,rfl,w,_,0,_,rfl,rfl,ay.of hw,bM,_,rfl,w,_,1,_,rfl,rfl,ay.of hw,cW,_,_,rfl,rfl,rfl⟩,?_⟩
        rintro σ' H' ⟨rfl,rfl⟩
        refine⟨_,rfl,rfl,_,rfl,?_⟩
        refine aU (show decide (V.str "copy" = V.str "put")=false by decide +kernel) ?_
        refine⟨_,rfl,rfl,_,rfl,?_⟩
        refine bZ (show decide (V.str "copy" = V.str "copy")=true by decide +kernel) ?_
        refine⟨_,rfl,p,dx,_,rfl,hob,mn,_,rfl,w,_,2,_,rfl,rfl,ay.of hw,at2,p,pl,d,nl,sl,plv,nums,S,m,y,rfl,A,_,rfl,p,C,dx,_,_,rfl,hob,T.cl,T.gM,ju,_,rfl,d,_,rfl,iu.k (k:=Sum.inr x) hd (cM (by omega)),?_⟩
        have A1:=A.gM (x:=x) (n:=S.w y) hd dw hk
        obtain⟨dx1,hob1⟩:=A1.ob
        refine⟨_,rfl,p,C,dx1,_,_,rfl,hob1,T.cl,T.place,fS,_,_,rfl,rfl,dx1,_,hob1,(by show 8<1000;decide),?_⟩
        exact q _ (A1.obj (by rw [i5];rfl) rfl rfl rfl rfl) (cu.jN.trans cu.kM)
    case add x n =>
        refine⟨fun σ' H'=>σ' = [some (.ref p),some (.ref w),some (.str "add"),some (.str x)]/\H=H',⟨_,rfl,w,_,0,_,rfl,rfl,ay.of hw,bM,_,rfl,w,_,1,_,rfl,rfl,ay.of hw,cW,_,_,rfl,rfl,rfl⟩,?_⟩
        rintro σ' H' ⟨rfl,rfl⟩
        refine⟨_,rfl,rfl,_,rfl,?_⟩
        refine aU (show decide (V.str "add" = V.str "put")=false by decide +kernel) ?_
        refine⟨_,rfl,rfl,_,rfl,?_⟩
        refine aU (show decide (V.str "add" = V.str "copy")=false by decide +kernel) ?_
        refine⟨_,rfl,rfl,_,rfl,?_⟩
        refine bZ (show decide (V.str "add" = V.str "add")=true by decide +kernel) ?_
        refine⟨_,rfl,p,dx,_,rfl,hob,mn,_,rfl,p,pl,d,nl,sl,plv,nums,S,m,x,rfl,A,_,rfl,w,_,2,_,rfl,rfl,ay.of hw,at2,_,_,rfl,rfl,_,rfl,p,C,dx,_,_,rfl,hob,T.cl,T.gM,ju,_,rfl,d,_,rfl,iu.k (k:=Sum.inr x) hd (cM (by omega)),?_⟩
        have A1:=A.gM (x:=x) (n:=S.w x+n) hd dw hk
        obtain⟨dx1,hob1⟩:=A1.ob
        refine⟨_,rfl,p,C,dx1,_,_,rfl,hob1,T.cl,T.place,fS,_,_,rfl,rfl,dx1,_,hob1,(by show 8<1000;decide),?_⟩
        exact q _ (A1.obj (by rw [i5];rfl) rfl rfl rfl rfl) (cu.jN.trans cu.kM)
    case read x =>
        refine⟨fun σ' H'=>σ' = [some (.ref p),some (.ref w),some (.str "read"),some (.str x)]/\H=H',⟨_,rfl,w,_,0,_,rfl,rfl,ay.of hw,bM,_,rfl,w,_,1,_,rfl,rfl,ay.of hw,cW,_,_,rfl,rfl,rfl⟩,?_⟩
        rintro σ' H' ⟨rfl,rfl⟩
        have hlt:=hrd rfl
        have hn:nums[S.taken]?=some nums[S.taken]:=by simp [hlt]
        generalize nums[S.taken]=n at hn
        have es:fG nums S (.read x)={ S with w:=iw S.w x n,taken:=S.taken+1,place:=S.place+1 }:=by
          unfold fG
          rw [hn]
        rw [es] at q
        refine⟨_,rfl,rfl,_,rfl,?_⟩
        refine aU (show decide (V.str "read" = V.str "put")=false by decide +kernel) ?_
        refine⟨_,rfl,rfl,_,rfl,?_⟩
        refine aU (show decide (V.str "read" = V.str "copy")=false by decide +kernel) ?_
        refine⟨_,rfl,rfl,_,rfl,?_⟩
        refine aU (show decide (V.str "read" = V.str "add")=false by decide +kernel) ?_
        refine⟨_,rfl,rfl,_,rfl,?_⟩
        refine bZ (show decide (V.str "read" = V.str "read")=true by decide +kernel) ?_
        refine⟨_,rfl,p,dx,_,rfl,hob,rQ,p,pl,d,nl,sl,plv,nums,S,m,n,rfl,A,hn,fun H1 A1 b1=>?_⟩
        obtain⟨dx1,hob1⟩:=A1.ob
        obtain⟨kvs1,hd1,dw1,hk1⟩:=A1.dict
        refine⟨_,rfl,p,C,dx1,_,_,rfl,hob1,T.cl,T.gM,ju,_,rfl,d,_,rfl,iu.k (k:=Sum.inr x) hd1 (cM (by omega)),?_⟩
        have A2:=A1.gM (x:=x) (n:=n) hd1 dw1 hk1
        obtain⟨dx2,hob2⟩:=A2.ob
        refine⟨_,rfl,p,C,dx2,_,_,rfl,hob2,T.cl,T.place,fS,_,_,rfl,rfl,dx2,_,hob2,(by show 8<1000;decide),?_⟩
        exact q _ (A2.obj (by rw [i5];rfl) rfl rfl rfl rfl) ((b1.trans cu.jN).trans cu.kM)
    case tell x =>
        refine⟨fun σ' H'=>σ' = [some (.ref p),some (.ref w),some (.str "tell"),some (.str x)]/\H=H',⟨_,rfl,w,_,0,_,rfl,rfl,ay.of hw,bM,_,rfl,w,_,1,_,rfl,rfl,ay.of hw,cW,_,_,rfl,rfl,rfl⟩,?_⟩
        rintro σ' H' ⟨rfl,rfl⟩
        refine⟨_,rfl,rfl,_,rfl,?_⟩
        refine aU (show decide (V.str "tell" = V.str "put")=false by decide +kernel) ?_
        refine⟨_,rfl,rfl,_,rfl,?_⟩
        refine aU (show decide (V.str "tell" = V.str "copy")=false by decide +kernel) ?_
        refine⟨_,rfl,rfl,_,rfl,?_⟩
        refine aU (show decide (V.str "tell" = V.str "add")=false by decide +kernel) ?_
        refine⟨_,rfl,rfl,_,rfl,?_⟩
        refine aU (show decide (V.str "tell" = V.str "read")=false by decide +kernel) ?_
        refine⟨_,rfl,p,C,dx,_,_,rfl,hob,T.cl,T.eY,nB,.inl ⟨rfl,_,aY.of A.eY⟩,_,rfl,p,dx,_,rfl,hob,mn,_,rfl,p,pl,d,nl,sl,plv,nums,S,m,x,rfl,A,sl,_,_,rfl,rfl,A.eY,(by rw [Gg];exact cM (by have:=A.bK.1;omega)),?_⟩
        have A1:=A.EL (n:=S.w x)
        obtain⟨dx1,hob1⟩:=A1.ob
        refine⟨_,rfl,p,C,dx1,_,_,rfl,hob1,T.cl,T.place,fS,_,_,rfl,rfl,dx1,_,hob1,(by show 8<1000;decide),?_⟩
        exact q _ (A1.obj (by rw [i5];rfl) rfl rfl rfl rfl) (cu.D1.trans cu.kM)
theorem p5 {f:Addr} {fd:FuncData} (F:bS K "come_to" "Stand.come_to" d9 f fd) (Z:Bl mg) {C:Addr} (T:lN K C)  : bh P w K mg base bQ 1 f fd ["self", "piece"] (u9 C):=by
 refine F.ok (k:=0) pW (fun vs H Q E h=>?_) (fun cdv A outer s H vs Q E hr h=>?_)
 ·obtain⟨p,pl,d,nl,sl,plv,nums,S,m,n,rfl,_⟩:=h
  rfl
 ·obtain⟨p,pl,d,nl,sl,plv,nums,S,m,n,rfl,A,hm,q⟩:=h
  refine⟨_,(ah (cx (fb PySem.F.plainAttrs_list PySem.F.slot_list_append PySem.F.type_list_append cR (bH (pv 0) rfl) (aa (pv 1) af)))
   (av (ft (pv 0) ao rfl))),?_⟩
  obtain⟨dx,hob⟩:=A.ob
  refine⟨_,rfl,p,C,dx,_,_,rfl,hob,T.cl,T.aH,nz,.inl ⟨rfl,_,aY.of A.aH⟩,_,rfl,pl,_,_,rfl,rfl,A.aH,(by rw [Gg];exact cM (by have:=A.bK.2;omega)),?_⟩
  have A1:=A.FG (q:=n)
  obtain⟨dx1,hob1⟩:=A1.ob
  refine⟨_,rfl,p,C,dx1,_,rfl,hob1,T.cl,T.place,(by show 8<1000;decide),?_⟩
  exact q _ (A1.obj (by rw [i5];rfl) rfl rfl rfl rfl) (cu.DZ.trans cu.kM)
theorem rh {f:Addr} {fd:FuncData} (F:bS K "do_end" "Stand.do_end" eT f fd) (Z:Bl mg) {C:Addr} (T:lN K C) (O_Stand_worth:eE P w K mg base C "worth" 1 ["self", "name"] (oi C)) (O_Stand_come_to:eE P w K mg base C "come_to" 1 ["self", "piece"] (u9 C)) (O_answer_of:Own P w K mg base "answer_of" 4 ["stretch", "word", "number"] yc):bh P w K mg base bQ 5 f fd ["self", "end"] (rV C):=by
  refine F.ok (k:=4) du (fun vs H Q E h=>?_) (fun cdv A outer s H vs Q E hr h=>?_)
  . obtain⟨p,pl,d,nl,sl,w,plv,nums,S,m,e,rfl,_⟩:=h
    rfl
  . obtain⟨p,pl,d,nl,sl,w,plv,nums,S,m,e,rfl,A,hw,hm,q⟩:=h
    refine⟨_,(av (bw (aI bP (aF aK (pv 1) ao (fun _ _=>rfl)) bc (aQ _))
      (av (ft (pv 0) iK rfl))
      (av (bw (aI bP (aF aK (pv 1) ao (fun _ _=>rfl)) bc (aQ _))
      (av (cx (gg O_Stand_come_to (pv 0) (hr.mono (by decide)) (aa (aF aK (pv 1) ao (fun _ _=>rfl)) af))))
      (ah (cG (cV (pv 1) (cU rfl (aR (aG (i:=2) du.nd rfl (Gf rfl)) (aR (aG (i:=3) du.nd rfl (Gf rfl)) (aR (aG (i:=4) du.nd rfl (Gf rfl)) (aR (aG (i:=5) du.nd rfl (Gf rfl)) (aR (aG (i:=6) du.nd rfl (Gf rfl)) cI))))))))
      (ah (aT (i:=7) du.nd rfl (Gf rfl) (gg O_Stand_worth (pv 0) (hr.mono (by decide)) (aa (pv 3) af)))
      (av (cx (gg O_Stand_come_to (pv 0) (hr.mono (by decide)) (aa (eB (aI bP (aB O_answer_of (hr.mono (by decide)) rfl (aa (bx (aa (pv 7) (aa (pv 7) af))) (aa (pv 2) (aa (pv 4) af)))) bc (aQ _)) (pv 5) (pv 6)) af)))))))))),?_⟩
    obtain⟨dx,hob⟩:=A.ob
    cases e
    case stop =>
      refine⟨_,rfl,w,_,0,_,rfl,rfl,ay.of hw,bM,rfl,_,rfl,?_⟩
      refine bZ (show decide (V.str "stop" = V.str "stop")=true by decide +kernel) ?_
      refine⟨_,rfl,p,C,dx,_,rfl,hob,T.cl,T.over,(by show 8<1000;decide),?_⟩
      refine q _ (bE.mono (m:=m) (A.obj ?_ rfl rfl rfl rfl) (Hh m)) cu.kM
      rw [CP]
      exact congrArg (fun b=>fz plv (.ref pl) (.int S.place) (.ref d) (.ref nl) (.int S.taken) (.ref sl) (V.bl b)) (show true=decide (("stop" : Str) = "stop") by decide +kernel)
    case go n =>
      refine⟨_,rfl,w,_,0,_,rfl,rfl,ay.of hw,bM,rfl,_,rfl,?_⟩
      refine aU (show decide (V.str "go" = V.str "stop")=false by decide +kernel) ?_
      refine⟨_,rfl,w,_,0,_,rfl,rfl,ay.of hw,bM,rfl,_,rfl,?_⟩
      refine bZ (show decide (V.str "go" = V.str "go")=true by decide +kernel) ?_
      exact⟨_,rfl,p,dx,_,rfl,hob,qC,_,rfl,w,_,1,_,rfl,rfl,ay.of hw,cW,p,pl,d,nl,sl,plv,nums,S,m,n,rfl,A,hm,fun H1 A1 b1=>q _ A1 b1⟩
    case cE b x n u v =>
      refine⟨_,rfl,w,_,0,_,rfl,rfl,ay.of hw,bM,rfl,_,rfl,?_⟩
      refine aU (by cases b;(show decide (V.str "is" = V.str "stop")=false;decide +kernel);(show decide (V.str "less" = V.str "stop")=false;decide +kernel)) ?_
      refine⟨_,rfl,w,_,0,_,rfl,rfl,ay.of hw,bM,rfl,_,rfl,?_⟩
      refine aU (by cases b;(show decide (V.str "is" = V.str "go")=false;decide +kernel);(show decide (V.str "less" = V.str "go")=false;decide +kernel)) ?_
      refine⟨fun σ' H'=>σ' = [some (.ref p),some (.ref w),some (.str (wT b)),some (.str x),some (.int n),some (.int u),some (.int v),none]/\H=H',⟨_,rfl,w,_,rfl,ay.of hw,rfl,_,_,rfl,_,_,rfl,_,_,rfl,_,_,rfl,_,_,rfl,rfl,rfl,rfl⟩,?_⟩
      rintro σ' H' ⟨rfl,rfl⟩
      refine⟨_,rfl,p,dx,_,rfl,hob,mn,_,rfl,p,pl,d,nl,sl,plv,nums,S,m,x,rfl,A,?_⟩
      refine⟨_,rfl,p,dx,_,rfl,hob,qC,_,rfl,_,rfl,ln2,fun t ht=>⟨_,rfl,_,rfl,t,wT b,n,some (S.w x),some (S.w x),rfl,ae,fun H1 s1=>⟨rfl,_,rfl,?_⟩⟩⟩
      have s2:ar H H1:=(ar.new ht).trans s1
      have A1:=A.same s2
      cases hc:fD b (S.w x) n with
      | true =>
        refine bZ (by rw [zG,if_pos hc];decide +kernel) ?_
        refine⟨_,rfl,p,pl,d,nl,sl,plv,nums,S,m,u,rfl,A1,hm,fun H2 A2 b2=>q _ ?_ ((cu.of_same s2).trans b2)⟩
        simp only [jh,hc,if_true]
        exact A2
      | false =>
        refine aU (by rw [zG,hc];decide +kernel) ?_
        refine⟨_,rfl,p,pl,d,nl,sl,plv,nums,S,m,v,rfl,A1,hm,fun H2 A2 b2=>q _ ?_ ((cu.of_same s2).trans b2)⟩
        simp only [jh,hc,Hk,if_false]
        exact A2
theorem p6 {f:Addr} {fd:FuncData} (F:bS K "do_step" "Stand.do_step" eh f fd) (Z:Bl mg) {C:Addr} (T:lN K C) (O_Stand_do_deed:eE P w K mg base C "do_deed" 2 ["self", "deed"] (pD C)) (O_Stand_do_end:eE P w K mg base C "do_end" 5 ["self", "end"] (rV C)):bh P w K mg base bQ 6 f fd ["self"] (pE C):=by
 refine F.ok (k:=5) iz (fun vs H Q E h=>?_) (fun cdv A outer s H vs Q E hr h=>?_)
 ·obtain⟨p,pl,d,nl,sl,plv,nums,S,m,ps,rfl,_⟩:=h
  rfl
 ·obtain⟨p,pl,d,nl,sl,plv,nums,S,m,ps,rfl,A,hp,hpc,htk,hlk,hm,q⟩:=h
  refine⟨_,(ah (cG (cV (aF aK (bH (pv 0) rfl) (aF cy (bH (pv 0) rfl) (BY y8 ao) (fun _ _=>rfl)) (fun _ _=>rfl)) (cU rfl (aR (aG (i:=1) iz.nd rfl (Gf rfl)) (aR (aG (i:=2) iz.nd rfl (Gf rfl)) cI)))))
   (av (bw (aI gU (bH (pv 0) rfl) (bb aV rfl Z.len bT (aa (pv 1) af)) (aQ _))
   (av (cx (gg O_Stand_do_deed (pv 0) (hr.mono (by decide)) (aa (aF aK (pv 1) (bH (pv 0) rfl) (fun _ _=>rfl)) af))))
   (av (cx (gg O_Stand_do_end (pv 0) (hr.mono (by decide)) (aa (pv 2) af))))))),?_⟩
  obtain⟨dx,hob⟩:=A.ob
  have hx:ps[S.aP]?=some ps[S.aP]:=by simp [hpc]
  generalize hpe:ps[S.aP]=pe at hx
  obtain⟨ds,e⟩:=pe
  obtain⟨pp,xs,pc,da,ea,vs,rfl,e1,el,hx',e2,e3,r3,e4⟩:=eX hp hx
  have hvl:vs.length=ds.length:=by rw [r3.len,Gg]
  refine⟨fun σ' H'=>σ' = [some (.ref p),some (.ref da),some (.ref ea)]/\H=H',⟨_,rfl,p,C,dx,_,_,rfl,hob,T.cl,T.pieces,tq,_,rfl,p,C,dx,_,_,rfl,hob,T.cl,T.aH,nz,_,rfl,pl,_,_,_,rfl,rfl,aY.of A.aH,A.xg,pp,xs,_,_,rfl,rfl,ay.of e1,bI hx',pc,_,rfl,ay.of e2,rfl,_,_,rfl,_,_,rfl,rfl,rfl,rfl⟩,?_⟩
  rintro σ' H' ⟨rfl,rfl⟩
  refine⟨_,rfl,p,C,dx,_,_,rfl,hob,T.cl,T.place,fS,_,rfl,da,_,rfl,.inr (ay.of e3),_,_,rfl,rfl,_,rfl,?_⟩
  refine cZ (fun hc=>?_) (fun hc=>?_)
  ·have hlt:S.place<vs.length:=by have:=of_decide_eq_true hc;omega
   have hdd:ds[S.place]?=some (ds[S.place]'(by omega)):=by simp [show S.place<ds.length by omega]
   generalize hde:ds[S.place]'(by omega)=dd at hdd
   obtain⟨v,hv,rd⟩:=r3.get (i:=S.place) (d:=dI dd) (by rw [GI,hdd];rfl)
   obtain⟨dp,rfl,hdp⟩:=lM rd
   rw [jt hx hdd] at q
   have hrd:lO dd=true->S.taken<nums.length:=fun hr=>by
    unfold gY at hlk
    rw [hx] at hlk
    dsimp only at hlk
    rw [hdd] at hlk
    dsimp only at hlk
    rw [hr] at hlk
    have:¬S.taken=nums.length:=of_decide_eq_false (by simpa using hlk)
    omega
   exact⟨_,rfl,p,dx,_,rfl,hob,yf,_,rfl,_,rfl,p,C,dx,_,_,rfl,hob,T.cl,T.place,fS,da,_,_,_,rfl,rfl,ay.of e3,bI hv,p,pl,d,nl,sl,dp,_,nums,S,m,dd,rfl,A,hdp,hrd,hm,q⟩
  ·have hge:¬S.place<vs.length:=fun z=>hc (decide_eq_true (by omega))
   rw [gK hx (by simp;omega)] at q
   exact⟨_,rfl,p,dx,_,rfl,hob,zA,_,rfl,p,pl,d,nl,sl,ea,_,nums,S,m,e,rfl,A,e4,hm,q⟩
theorem oE {f:Addr} {fd:FuncData} (F:bS K "__init__" "Stand.__init__" dH f fd) (Z:Bl mg) {C:Addr} (T:lN K C)  : bh P w K mg base bQ 1 f fd ["self", "pieces", "begin", "worths", "numbers"] (rX C):=by
 refine F.ok (k:=0) oB (fun vs H Q E h=>?_) (fun cdv A outer s H vs Q E hr h=>?_)
 ·obtain⟨p,dx,d0,np,plv,pc,kvs,w,nums,rfl,_⟩:=h
  rfl
 ·obtain⟨p,dx,d0,np,plv,pc,kvs,w,nums,rfl,hp,hd0,dw,hnp,q⟩:=h
  refine⟨_,(ah (cG (ft (pv 0) (pv 1) rfl))
   (ah (cG (ft (pv 0) (cP (aa (pv 2) af)) rfl))
   (ah (cG (ft (pv 0) ao rfl))
   (ah (cG (ft (pv 0) (bA u7 rfl Z.dict oh (aa (pv 3) af)) rfl))
   (ah (cG (ft (pv 0) (bA m7 rfl Z.list wX (aa (pv 4) af)) rfl))
   (ah (cG (ft (pv 0) ao rfl))
   (ah (cG (ft (pv 0) (cP af) rfl))
   (av (cG (ft (pv 0) iK rfl)))))))))),?_⟩
  have h0:=hp
  have k0:∀c o,H c=some o->c≠p->H c=some o:=fun _ _ e _=>e
  refine⟨fun σ' H1=>σ' = [some (.ref p),some plv,some (.int pc),some (.ref d0),some (.ref np)]/\H1 p=some (.ins C dx [("pieces",plv)])/\(∀c o,H c=some o->c≠p->H1 c=some o),⟨_,rfl,_,rfl,p,C,dx,_,rfl,h0,T.cl,T.pieces,(by show 0<1000;decide),rfl,(by rw [ae,zB]),fun c o e n=>by rw [ai n];exact k0 c o e n⟩,?_⟩
  clear k0 h0
  rintro σ' H1 ⟨rfl,h0,k0⟩
  refine⟨fun σ' H1=>σ' = [some (.ref p),some plv,some (.int pc),some (.ref d0),some (.ref np)]/\∃(pl:Addr),H1 p=some (.ins C dx [("pieces",plv),("passed",V.ref pl)])/\(∀c o,H c=some o->c≠p->H1 c=some o)/\H pl=none/\pl≠p/\H1 pl=some (.lst [.int pc]),⟨_,rfl,wY,fun pl hn=>⟨_,rfl,p,C,dx,_,rfl,(by rw [ai (aw h0 hn)];exact h0),T.cl,T.aH,(by show 1<1000;decide),rfl,pl,(by rw [ae,zC]),fun c o e n=>fE (k0 c o e n) n hn,(eC k0 h0 hn).1,(eC k0 h0 hn).2,(by rw [ai (eC k0 h0 hn).2,ae])⟩⟩,?_⟩
  clear k0 h0
  rintro σ' H1 ⟨rfl,pl,h0,k0,n_pl,m_pl,h_pl⟩
  refine⟨fun σ' H1=>σ' = [some (.ref p),some plv,some (.int pc),some (.ref d0),some (.ref np)]/\∃(pl:Addr),H1 p=some (.ins C dx [("pieces",plv),("passed",V.ref pl),("place",V.int 0)])/\(∀c o,H c=some o->c≠p->H1 c=some o)/\H pl=none/\pl≠p/\H1 pl=some (.lst [.int pc]),⟨_,rfl,p,C,dx,_,rfl,h0,T.cl,T.place,(by show 2<1000;decide),rfl,pl,(by rw [ae,AV]),fun c o e n=>by rw [ai n];exact k0 c o e n,n_pl,m_pl,(by rw [ai m_pl];exact h_pl)⟩,?_⟩
  clear k0 h0 n_pl m_pl h_pl
  rintro σ' H1 ⟨rfl,pl,h0,k0,n_pl,m_pl,h_pl⟩
  refine⟨fun σ' H1=>σ' = [some (.ref p),some plv,some (.int pc),some (.ref d0),some (.ref np)]/\∃(pl d:Addr),H1 p=some (.ins C dx [("pieces",plv),("passed",V.ref pl),("place",V.int 0),("worths",V.ref d)])/\(∀c o,H c=some o->c≠p->H1 c=some o)/\H pl=none/\pl≠p/\H1 pl=some (.lst [.int pc])/\H d=none/\d≠p/\H1 d=some (.dK kvs),⟨_,rfl,d0,kvs,rfl,k0 d0 _ hd0 (bB hd0 hp (by intro z;cases z)),fun d hn=>⟨_,rfl,p,C,dx,_,rfl,(by rw [ai (aw h0 hn)];exact h0),T.cl,T.gM,(by show 3<1000;decide),rfl,pl,d,(by rw [ae,zD]),fun c o e n=>fE (k0 c o e n) n hn,n_pl,m_pl,fE h_pl m_pl hn,(eC k0 h0 hn).1,(eC k0 h0 hn).2,(by rw [ai (eC k0 h0 hn).2,ae])⟩⟩,?_⟩
  clear k0 h0 n_pl m_pl h_pl
  rintro σ' H1 ⟨rfl,pl,d,h0,k0,n_pl,m_pl,h_pl,n_d,m_d,h_d⟩
  refine⟨fun σ' H1=>σ' = [some (.ref p),some plv,some (.int pc),some (.ref d0),some (.ref np)]/\∃(pl d nl:Addr),H1 p=some (.ins C dx [("pieces",plv),("passed",V.ref pl),("place",V.int 0),("worths",V.ref d),("numbers",V.ref nl)])/\(∀c o,H c=some o->c≠p->H1 c=some o)/\H pl=none/\pl≠p/\H1 pl=some (.lst [.int pc])/\H d=none/\d≠p/\H1 d=some (.dK kvs)/\H nl=none/\nl≠p/\H1 nl=some (.lst (nums.map V.int))/\pl≠nl,⟨_,rfl,np,_,rfl,.inr (ay.of (k0 np _ hnp (bB hnp hp (by intro z;cases z)))),fun nl hn=>⟨_,rfl,p,C,dx,_,rfl,(by rw [ai (aw h0 hn)];exact h0),T.cl,T.rR,(by show 4<1000;decide),rfl,pl,d,nl,(by rw [ae,yh]),fun c o e n=>fE (k0 c o e n) n hn,n_pl,m_pl,fE h_pl m_pl hn,n_d,m_d,fE h_d m_d hn,(eC k0 h0 hn).1,(eC k0 h0 hn).2,(by rw [ai (eC k0 h0 hn).2,ae]),aw h_pl hn⟩⟩,?_⟩
  clear k0 h0 n_pl m_pl h_pl n_d m_d h_d
  rintro σ' H1 ⟨rfl,pl,d,nl,h0,k0,n_pl,m_pl,h_pl,n_d,m_d,h_d,n_nl,m_nl,h_nl,x1⟩
  refine⟨fun σ' H1=>σ' = [some (.ref p),some plv,some (.int pc),some (.ref d0),some (.ref np)]/\∃(pl d nl:Addr),H1 p=some (.ins C dx [("pieces",plv),("passed",V.ref pl),("place",V.int 0),("worths",V.ref d),("numbers",V.ref nl),("taken",V.int 0)])/\(∀c o,H c=some o->c≠p->H1 c=some o)/\H pl=none/\pl≠p/\H1 pl=some (.lst [.int pc])/\H d=none/\d≠p/\H1 d=some (.dK kvs)/\H nl=none/\nl≠p/\H1 nl=some (.lst (nums.map V.int))/\pl≠nl,⟨_,rfl,p,C,dx,_,rfl,h0,T.cl,T.taken,(by show 5<1000;decide),rfl,pl,d,nl,(by rw [ae,AW]),fun c o e n=>by rw [ai n];exact k0 c o e n,n_pl,m_pl,(by rw [ai m_pl];exact h_pl),n_d,m_d,(by rw [ai m_d];exact h_d),n_nl,m_nl,(by rw [ai m_nl];exact h_nl),x1⟩,?_⟩
  clear k0 h0 n_pl m_pl h_pl n_d m_d h_d n_nl m_nl h_nl x1
  rintro σ' H1 ⟨rfl,pl,d,nl,h0,k0,n_pl,m_pl,h_pl,n_d,m_d,h_d,n_nl,m_nl,h_nl,x1⟩
  refine⟨fun σ' H1=>σ' = [some (.ref p),some plv,some (.int pc),some (.ref d0),some (.ref np)]/\∃(pl d nl sl:Addr),H1 p=some (.ins C dx [("pieces",plv),("passed",V.ref pl),("place",V.int 0),("worths",V.ref d),("numbers",V.ref nl),("taken",V.int 0),("spoken",V.ref sl)])/\(∀c o,H c=some o->c≠p->H1 c=some o)/\H pl=none/\pl≠p/\H1 pl=some (.lst [.int pc])/\H d=none/\d≠p/\H1 d=some (.dK kvs)/\H nl=none/\nl≠p/\H1 nl=some (.lst (nums.map V.int))/\H sl=none/\sl≠p/\H1 sl=some (.lst [])/\pl≠nl/\pl≠sl/\nl≠sl,⟨(by show 0<=sizeLine;decide),fun sl hn=>⟨_,rfl,p,C,dx,_,rfl,(by rw [ai (aw h0 hn)];exact h0),T.cl,T.eY,(by show 6<1000;decide),rfl,pl,d,nl,sl,(by rw [ae,zE]),fun c o e n=>fE (k0 c o e n) n hn,n_pl,m_pl,fE h_pl m_pl hn,n_d,m_d,fE h_d m_d hn,n_nl,m_nl,fE h_nl m_nl hn,(eC k0 h0 hn).1,(eC k0 h0 hn).2,(by rw [ai (eC k0 h0 hn).2,ae]),x1,aw h_pl hn,aw h_nl hn⟩⟩,?_⟩
  clear k0 h0 n_pl m_pl h_pl n_d m_d h_d n_nl m_nl h_nl x1
  rintro σ' H1 ⟨rfl,pl,d,nl,sl,h0,k0,n_pl,m_pl,h_pl,n_d,m_d,h_d,n_nl,m_nl,h_nl,n_sl,m_sl,h_sl,x1,x2,x3⟩
  refine⟨fun σ' H1=>σ' = [some (.ref p),some plv,some (.int pc),some (.ref d0),some (.ref np)]/\∃(pl d nl sl:Addr),H1 p=some (.ins C dx [("pieces",plv),("passed",V.ref pl),("place",V.int 0),("worths",V.ref d),("numbers",V.ref nl),("taken",V.int 0),("spoken",V.ref sl),("over",V.bl false)])/\(∀c o,H c=some o->c≠p->H1 c=some o)/\H pl=none/\pl≠p/\H1 pl=some (.lst [.int pc])/\H d=none/\d≠p/\H1 d=some (.dK kvs)/\H nl=none/\nl≠p/\H1 nl=some (.lst (nums.map V.int))/\H sl=none/\sl≠p/\H1 sl=some (.lst [])/\pl≠nl/\pl≠sl/\nl≠sl,⟨_,rfl,p,C,dx,_,rfl,h0,T.cl,T.over,(by show 7<1000;decide),rfl,pl,d,nl,sl,(by rw [ae,CQ]),fun c o e n=>by rw [ai n];exact k0 c o e n,n_pl,m_pl,(by rw [ai m_pl];exact h_pl),n_d,m_d,(by rw [ai m_d];exact h_d),n_nl,m_nl,(by rw [ai m_nl];exact h_nl),n_sl,m_sl,(by rw [ai m_sl];exact h_sl),x1,x2,x3⟩,?_⟩
  clear k0 h0 n_pl m_pl h_pl n_d m_d h_d n_nl m_nl h_nl n_sl m_sl h_sl x1 x2 x3
  rintro σ' H1 ⟨rfl,pl,d,nl,sl,h0,k0,n_pl,m_pl,h_pl,n_d,m_d,h_d,n_nl,m_nl,h_nl,n_sl,m_sl,h_sl,x1,x2,x3⟩
  refine q pl d nl sl H1 ⟨⟨dx,?_⟩,h_pl,⟨[],rfl⟩,⟨kvs,h_d,dw,Gi _⟩,h_nl,h_sl,⟨x1,x2,x3⟩,⟨GK _,Nat.le_add_left _ _⟩⟩ k0 n_pl n_d n_nl n_sl
  rw [h0]
  exact congrArg (fun b=>some (HO.ins C dx (fz plv (.ref pl) (.int 0) (.ref d) (.ref nl) (.int 0) (.ref sl) (V.bl b)))) (show false=decide (("on" : Str) = "stop") by decide +kernel)
theorem BO {f:Addr} {fd:FuncData} (F:bS K "go_on" "go_on" j5 f fd) (Z:Bl mg) {C:Addr} (T:lN K C) (O_Stand_is_held:eE P w K mg base C "is_held" 3 ["self"] (va C)) (O_Stand_do_step:eE P w K mg base C "do_step" 6 ["self"] (pE C)):bh P w K mg base bQ 7 f fd ["stand", "steps"] (vb C):=by
  refine F.ok (k:=6) pX (fun vs H Q E h=>?_) (fun cdv A outer s H vs Q E hr h=>?_)
  . obtain⟨p,pl,d,nl,sl,plv,nums,S,m,n,ps,rfl,_⟩:=h
    rfl
  . obtain⟨p,pl,d,nl,sl,plv,nums,S,m,n,ps,rfl,A,hp,hin,hpc,htk,hm,q⟩:=h
    refine⟨_,(ah (aT (i:=2) pX.nd rfl (Gf rfl) ao)
      (ah (kd PassesOwn.never (PW.pt (kc (aI gU (pv 2) (pv 1) (aQ _)) (jW (y0 (j9 (kq O_Stand_is_held (pv 0) (hr.mono (by decide))))))))
      (ah (cx (kq O_Stand_do_step (pv 0) (hr.mono (by decide))))
      (av (Dt (i:=2) pX.nd rfl (Gf rfl) ao Du))))
      (av (aC (pv 2))))),?_⟩
    refine⟨fun μ σ' H'=>∃i:Nat,i + μ = n/\σ' = [some (.ref p),some (.int n),some (.int i)]/\bE C H' p pl d nl sl plv nums (dX ps nums i S) (m+i)/\i7 ps nums i S=i/\aX H' plv (cN ps)/\cu p pl d sl H H',⟨n,0,by omega,rfl,A,rfl,hp,cu.refl _ _ _ _ _⟩,?_⟩
    rintro μ σ' H1 ⟨i,hi,rfl,A1,c1,p1,b1⟩
    have wi:=yi (ps:=ps) (nums:=nums) (S:=S) hin hpc htk i
    refine⟨_,rfl,_,rfl,_,_,rfl,rfl,_,rfl,?_⟩
    refine cZ (fun hc=>?_) (fun hc=>?_)
    . have hlt:i<n:=by have:=of_decide_eq_true hc;omega
      obtain⟨dx,hob⟩:=A1.ob
      refine⟨_,rfl,p,dx,_,rfl,hob,ye,p,pl,d,nl,sl,plv,nums,_,_,ps,rfl,A1,p1,wi.1,_,rfl,?_⟩
      cases hh:fc ps nums (dX ps nums i S) with
      | true =>
        refine aU rfl ?_
        have g:=lP hh (n-i)
        rw [show i+(n-i)=n by omega] at g
        have q':=q H1 (by rw [g.1,g.2,c1];exact A1) b1
        rw [g.2,c1] at q'
        exact⟨_,rfl,q'⟩
      | false =>
        refine bZ rfl ?_
        have g:=zF hh
        have hl:gY ps nums (dX ps nums i S)=false:=by
          unfold fc at hh
          cases hz:gY ps nums (dX ps nums i S) with
          | false=>rfl
          | true=>rw [hz] at hh;simp at hh
        refine⟨_,fun σ2 H2 z=>⟨n-(i+1),by omega,z⟩,?_⟩
        refine⟨_,rfl,p,dx,_,rfl,hob,yg,p,pl,d,nl,sl,plv,nums,_,_,ps,rfl,A1,p1,wi.1,wi.2,hl,(by omega),fun H2 A2 b2=>?_⟩
        rw [<-g.1] at A2
        refine⟨_,rfl,_,_,rfl,rfl,?_⟩
        refine⟨i+1,by omega,rfl,A2,?_,A1.rd b2 p1 (cK ps),b1.trans b2⟩
        rw [g.2,c1]
    . have hge:i=n:=by
        have:¬(i:Int)<(n:Int):=fun z=>hc (decide_eq_true z)
        omega
      subst hge
      refine aU rfl ?_
      have q':=q H1 (by rw [c1];exact A1) b1
      rw [c1] at q'
      exact⟨_,rfl,q'⟩
theorem Am {f:Addr} {fd:FuncData} (F:bS K "run_at" "run_at" je f fd) (Z:Bl mg) {C:Addr} (T:lN K C) (O_Stand___init__:rO P w K mg base C "Stand" 1 ["self", "pieces", "begin", "worths", "numbers"] (rX C)) (O_go_on:Own P w K mg base "go_on" 7 ["stand", "steps"] (vb C)):bh P w K mg base bQ 8 f fd ["plan", "piece", "worths", "numbers", "steps"] rY:=by
  refine F.ok (k:=7) kY (fun vs H Q E h=>?_) (fun cdv A outer s H vs Q E hr h=>?_)
  . obtain⟨d0,np,plv,pc,n,kvs,w,nums,ps,rfl,_⟩:=h
    rfl
  . obtain⟨d0,np,plv,pc,n,kvs,w,nums,ps,rfl,hp,hin,hpc,hd0,dw,hnp,hkl,hn,q⟩:=h
    refine⟨_,(ah (aT (i:=5) kY.nd rfl (Gf rfl) (rP O_Stand___init__ (hr.mono (by decide)) rfl (aa (pv 0) (aa (pv 1) (aa (pv 2) (aa (pv 3) af))))))
      (ah (aT (i:=6) kY.nd rfl (Gf rfl) (aB O_go_on (hr.mono (by decide)) rfl (aa (pv 5) (aa (pv 4) af))))
      (ah (cG (aT (i:=7) kY.nd rfl (Gf rfl) (eB (aI gU (pv 6) (pv 4) (aQ _)) bc bc)))
      (av (aC (bx (aa (eB (j9 (bH (pv 5) rfl)) bc (pv 7)) (aa (bA bu rfl Z.tuple cb (aa (bH (pv 5) rfl) af)) af)))))))),?_⟩
    refine⟨_,rfl,_,rfl,_,rfl,_,rfl,fun p dx nx ndx nex=>?_⟩
    have s0:ar H (upd (upd H dx (.own p)) p (.ins C dx [])):=fun b o e=>by
      rw [ai (aw e nx),ai (aw e ndx)]
      exact e
    refine⟨p,dx,d0,np,plv,pc,kvs,w,nums,rfl,ae,s0 _ _ hd0,dw,s0 _ _ hnp,fun pl d nl sl H1 A1 k1 n1 n2 n3 n4=>⟨rfl,?_⟩⟩
    have s1:ar H H1:=fun b o e=>k1 b o (s0 b o e) (aw e nx)
    have f1:∀a,(upd (upd H dx (.own p)) p (.ins C dx [])) a=none->H a=none:=fun a z=>by
      cases hz:H a with
      | none=>rfl
      | some o=>rw [s0 a o hz] at z;cases z
    refine⟨_,rfl,_,rfl,p,pl,d,nl,sl,plv,nums,bD pc w,kvs.length,n,ps,rfl,A1,hp.same s1 (cK ps),hin,hpc,GK _,(by omega),fun H2 A2 b2=>?_⟩
    have s2:ar H H2:=fun b o e=>b2 b o (s1 b o e) (aw e nx) (aw e (f1 _ n1)) (aw e (f1 _ n2)) (aw e (f1 _ n4))
    have gw:=xi (ps:=ps) (nums:=nums) (S:=bD pc w) hin hpc (GK _) rfl n
    have q2:∀v H',aX H' v (.tuple [.str (if (dX ps nums n (bD pc w)).word = "stop" then "stop" else if i7 ps nums n (bD pc w)<n then "dry" else "on"),.tuple ((dX ps nums n (bD pc w)).told.map PyData.int)])->ar H H'->Q v H':=by
      intro v H' r s
      refine q v H' ?_ s
      unfold ik
      rcases gw with ⟨g1,g2,g3⟩ | ⟨g1,g2⟩ | ⟨g1,g2,g3,g4⟩
      . rw [g2,g3,if_neg (by rw [g1];decide +kernel),if_neg (GY _)] at r
        rw [g1]
        exact r
      . rw [g2,if_pos g1] at r
        rw [g1]
        exact r
      . rw [g2,if_neg (by decide +kernel),if_pos g4] at r
        rw [g1]
        exact r
    clear q gw
    generalize dX ps nums n (bD pc w)=G at A2 q2
    generalize i7 ps nums n (bD pc w)=cn at A2 q2
    obtain⟨dx2,hob2⟩:=A2.ob
    refine⟨fun σ' H'=>σ' = [some plv,some (.int pc),some (.ref d0),some (.ref np),some (.int n),some (.ref p),some (.int cn),some (.str (if cn<n then "dry" else "on"))]/\H2=H',⟨_,rfl,_,rfl,_,_,rfl,rfl,_,rfl,cZ (fun hc=>⟨?_,rfl⟩) (fun hc=>⟨?_,rfl⟩)⟩,?_⟩
    . have hlt:cn<n:=by have:=of_decide_eq_true hc;omega
      rw [if_pos hlt]
      rfl
    . have hge:¬cn<n:=fun z=>hc (decide_eq_true (by omega))
      rw [if_neg hge]
      rfl
    rintro σ' H' ⟨rfl,rfl⟩
    refine⟨_,rfl,p,C,dx2,_,_,rfl,hob2,T.cl,T.over,xf,_,rfl,?_⟩
    cases ho:decide (G.word=("stop" : Str)) with
    | true =>
      refine bZ rfl ?_
      refine⟨_,rfl,p,C,dx2,_,_,rfl,hob2,T.cl,T.eY,nB,sl,_,rfl,.inl ⟨aY.of A2.eY,fun t ht=>⟨ln2,fun t2 ht2=>?_⟩⟩⟩
      rw [if_pos (of_decide_eq_true ho)] at q2
      exact q2 _ _ (.tup ae (.cons (.str _) (.cons (.tup (ar.new ht2 _ _ ae) (eI _)) .nil))) (s2.trans ((ar.new ht).trans (ar.new ht2)))
    | false =>
      refine aU rfl ?_
      refine⟨_,rfl,_,rfl,p,C,dx2,_,_,rfl,hob2,T.cl,T.eY,nB,sl,_,rfl,.inl ⟨aY.of A2.eY,fun t ht=>⟨ln2,fun t2 ht2=>?_⟩⟩⟩
      rw [if_neg (of_decide_eq_false ho)] at q2
      exact q2 _ _ (.tup ae (.cons (.str _) (.cons (.tup (ar.new ht2 _ _ ae) (eI _)) .nil))) (s2.trans ((ar.new ht).trans (ar.new ht2)))
theorem En {f:Addr} {fd:FuncData} (F:bS K "run" "run" oy f fd) (Z:Bl mg) (O_run_at:Own P w K mg base "run_at" 8 ["plan", "piece", "worths", "numbers", "steps"] rY):bh P w K mg base bQ 9 f fd ["plan", "numbers", "steps"] yj:=by
 refine F.ok (k:=8) Em (fun vs H Q E h=>?_) (fun cdv A outer s H vs Q E hr h=>?_)
 ·obtain⟨np,plv,n,nums,ps,rfl,_⟩:=h
  rfl
 ·obtain⟨np,plv,n,nums,ps,rfl,hp,hin,hpc,hnp,hn,q⟩:=h
  refine⟨_,(av (aC (aB O_run_at (hr.mono (by decide)) rfl (aa (pv 0) (aa ao (aa uX (aa (pv 1) (aa (pv 2) af)))))))),?_⟩
  refine⟨_,rfl,fun d hd=>⟨_,rfl,_,rfl,d,np,plv,0,n,[],fun _=>0,nums,ps,rfl,hp.same (ar.new hd) (cK ps),hin,hpc,ae,(fun x=>rfl),ar.new hd _ _ hnp,GK _,hn,fun v H1 r s1=>?_⟩⟩
  exact q v H1 r ((ar.new hd).trans s1)
theorem yQ {f:Addr} {fd:FuncData} (F:bS K "_law_bag" "_law_bag" iI f fd) (Z:Bl mg)  : bh P w K mg base bQ 1 f fd ["script", "k"] (xZ K):=by
 refine F.ok (k:=0) mN (fun vs H Q E h=>?_) (fun cdv A outer s H vs Q E hr h=>?_)
 ·obtain⟨a,ns,k,rfl,_⟩:=h
  rfl
 ·obtain⟨a,ns,k,rfl,hS,hk,q⟩:=h
  refine⟨_,(ah (aT (i:=2) mN.nd rfl (Gf rfl) ao)
   (ah (bw (aI gU (pv 1) (bb aV rfl Z.len bT (aa (pv 0) af)) (aQ _))
   (av (aT (i:=2) mN.nd rfl (Gf rfl) (bC ki (aF cy (pv 0) (pv 1) (fun _ _=>rfl)) (bC CK (bC qd ao ao) (bC qd ao ao)))))
   bf)
   (ah (bw (aI gU (pv 2) (bC qd ao ao) (aQ _))
   (av (aC (cP (aa ao (aa (bC dm ao (bC ki (bC dm (bC kh (pv 2) ao) (bC kh ao (pv 1))) ao)) af)))))
   bf)
   (av (aC (cP (aa (pv 2) (aa (bC dm ao (bC ki (bC dm (pv 2) (pv 1)) ao)) af)))))))),?_⟩
  refine⟨_,rfl,_,rfl,_,_,rfl,.inl hS,_,_,rfl,rfl,_,rfl,?_⟩
  refine cZ (fun hc=>?_) (fun hc=>?_)
  ·have hl:k<((ns.map V.int).length:Nat):=of_decide_eq_true hc
   obtain⟨v,hv,hm⟩:=xY hk hl
   obtain⟨z,_,rfl⟩:=GH.mp hm
   refine⟨_,rfl,_,rfl,_,_,_,_,rfl,rfl,hS,hv,10,60,rfl,rfl,⟨by decide,by decide,by decide⟩,10,60,rfl,rfl,⟨by decide,by decide,by decide⟩,_,_,rfl,rfl,(by unfold IntMulOk;decide +kernel),_,_,rfl,rfl,(show (0:Int)<10 ^ (60:Int).toNat*10 ^ (60:Int).toNat by decide +kernel),?_⟩
   refine⟨_,rfl,10,18,rfl,rfl,⟨by decide,by decide,by decide⟩,_,_,rfl,rfl,_,rfl,?_⟩
   refine cZ (fun hd=>?_) (fun hd=>?_)
   ·refine⟨_,rfl,_,_,rfl,rfl,.inr ⟨by decide,by decide⟩,_,rfl,_,_,rfl,rfl,.inl ⟨by decide,by decide⟩,_,_,rfl,rfl,_,_,rfl,rfl,(show (0:Int)<2147483646 by decide),_,_,rfl,rfl,ln2,fun p hp=>?_⟩
    exact q p _ hp ⟨_,_,ae,by omega,by omega⟩ (ar.new hp)
   ·refine⟨_,rfl,_,rfl,_,rfl,_,_,rfl,rfl,_,_,rfl,rfl,(show (0:Int)<2147483646 by decide),_,_,rfl,rfl,ln2,fun p hp=>?_⟩
    exact q p _ hp ⟨_,_,ae,by omega,by omega⟩ (ar.new hp)
  ·refine⟨_,rfl,10,18,rfl,rfl,⟨by decide,by decide,by decide⟩,_,_,rfl,rfl,_,rfl,?_⟩
   refine cZ (fun hd=>?_) (fun hd=>?_)
   ·refine⟨_,rfl,_,_,rfl,rfl,.inr ⟨by decide,by decide⟩,_,rfl,_,_,rfl,rfl,.inl ⟨by decide,by decide⟩,_,_,rfl,rfl,_,_,rfl,rfl,(show (0:Int)<2147483646 by decide),_,_,rfl,rfl,ln2,fun p hp=>?_⟩
    exact q p _ hp ⟨_,_,ae,by omega,by omega⟩ (ar.new hp)
   ·refine⟨_,rfl,_,rfl,_,rfl,_,_,rfl,rfl,_,_,rfl,rfl,(show (0:Int)<2147483646 by decide),_,_,rfl,rfl,ln2,fun p hp=>?_⟩
    exact q p _ hp ⟨_,_,ae,by omega,by omega⟩ (ar.new hp)
theorem wA {f:Addr} {fd:FuncData} (F:bS K "_law_take" "_law_take" hZ f fd) (Z:Bl mg)  : bh P w K mg base bQ 1 f fd ["bag", "many"] gI:=by
 refine F.ok (k:=0) o5 (fun vs H Q E h=>?_) (fun cdv A outer s H vs Q E hr h=>?_)
 ·obtain⟨b,m,rfl,_⟩:=h
  rfl
 ·obtain⟨b,m,rfl,⟨x,y,hb,h0,h1⟩,hm,q⟩:=h
  refine⟨_,(ah (bw (aI uo (aF cy (pv 0) ao (fun _ _=>rfl)) ao (aQ _))
   (ah (aT (i:=2) o5.nd rfl (Gf rfl) (bC ki (aF cy (pv 0) ao (fun _ _=>rfl)) (pv 1)))
   (ah (cV (bC AM (aF cy (pv 0) ao (fun _ _=>rfl)) (pv 1)) (qc (pv 0) ao set_list))
   (av (aC (pv 2)))))
   bf)
   (ah (cV (bC ki (bC kh (aF cy (pv 0) ao (fun _ _=>rfl)) ao) ao) (qc (pv 0) ao set_list))
   (av (aC (bC ki (bC wO (bC ki (bC kh (aF cy (pv 0) ao (fun _ _=>rfl)) (aF cy (pv 0) ao (fun _ _=>rfl))) ao) ao) (pv 1)))))),?_⟩
  refine⟨_,rfl,b,_,0,_,rfl,rfl,aY.of hb,bM,_,_,rfl,rfl,_,rfl,?_⟩
  refine cZ (fun hc=>?_) (fun hc=>?_)
  ·refine⟨_,rfl,b,_,0,_,rfl,rfl,aY.of hb,bM,_,rfl,_,_,rfl,rfl,hm.1,?_⟩
   refine⟨_,rfl,b,_,0,_,rfl,rfl,aY.of hb,bM,_,rfl,_,_,rfl,rfl,hm,_,rfl,b,_,0,0,rfl,rfl,hb,rfl,?_⟩
   refine⟨_,rfl,?_⟩
   exact q _ _ (Int.emod_nonneg _ (by have:=hm.1;omega)) (Int.emod_lt_of_pos _ hm.1) ⟨_,_,ae,h0,h1⟩ Fix.Cb
  ·refine⟨_,rfl,b,_,1,_,rfl,rfl,aY.of hb,cW,_,_,rfl,rfl,.inr ⟨by decide,by decide⟩,_,_,rfl,rfl,(show (0:Int)<2147483647 by decide),_,rfl,b,_,1,1,rfl,rfl,hb,rfl,?_⟩
   refine⟨_,rfl,b,_,1,_,rfl,rfl,aY.of ae,cW,_,rfl,b,_,1,_,rfl,rfl,aY.of ae,cW,_,_,rfl,rfl,.inl ⟨by omega,by omega⟩,_,_,rfl,rfl,(show (0:Int)<2147483629 by decide),_,_,rfl,rfl,⟨by decide,by decide⟩,_,rfl,_,_,rfl,rfl,hm.1,?_⟩
   exact q _ _ (Int.emod_nonneg _ (by have:=hm.1;omega)) (Int.emod_lt_of_pos _ hm.1) ⟨_,_,ae,by omega,by omega⟩ Fix.Cb
theorem vV {f:Addr} {fd:FuncData} (F:bS K "_law_names" "_law_names" gn f fd) (Z:Bl mg) (O_law_take:Own P w K mg base "_law_take" 1 ["bag", "many"] gI):bh P w K mg base bQ 2 f fd ["bag"] rJ:=by
  refine F.ok (k:=1) dY (fun vs H Q E h=>?_) (fun cdv A outer s H vs Q E hr h=>?_)
  . obtain⟨b,rfl,_⟩:=h
    rfl
  . obtain⟨b,rfl,hB,q⟩:=h
    refine⟨_,(ah (aT (i:=1) dY.nd rfl (GO rfl) bc)
      (ah (aT (i:=2) dY.nd rfl (Gf rfl) (bC dm ao (aB O_law_take (hr.mono (by decide)) rfl (aa (pv 0) (aa ao af)))))
      (ah (md (i:=3) ["k"] ["letters", "bag"] [1,0] rfl dY.nd rfl rfl rfl (fo rfl Z.range (aa (bC dm ao (aB O_law_take (hr.mono (by decide)) rfl (aa (pv 0) (aa ao af)))) af)) rfl (by decide +kernel) (by decide +kernel) (by decide +kernel) ⟨⟨rfl,.inl rfl,rfl⟩,⟨⟨rfl,.inl rfl,rfl⟩,True.intro⟩⟩ (fun _ _ _ _=>(aG (i:=0) (show ((["k"]:List Str)++(["letters", "bag"]:List Str)).Nodup by decide +kernel) rfl (Gf rfl) (hf:=GO rfl))) (fun _ _ _ _=>gf) (fun _ _ _ _=>(aF zf (pv 1) (aB O_law_take (hr.mono (by decide)) rfl (aa (pv 2) (aa ao af))) (fun _ _=>rfl))))
      (ah (aT (i:=4) dY.nd rfl (Gf rfl) (aB O_law_take (hr.mono (by decide)) rfl (aa (pv 0) (aa (bb aV rfl Z.len bT (aa (pv 3) af)) af))))
      (ah (aT (i:=5) dY.nd rfl (Gf rfl) (cP af))
      (ah (fY PassesOwn.never rfl (fo rfl Z.range (aa (pv 2) af)) (aG (i:=6) dY.nd rfl (Gf rfl))
      (ah (aT (i:=7) dY.nd rfl (Gf rfl) (bA m7 rfl Z.list wX (aa (pv 3) af)))
      (ah (cV (aF zf (pv 1) (aB O_law_take (hr.mono (by decide)) rfl (aa (pv 0) (aa ao af))) (fun _ _=>rfl)) (qc (pv 7) (pv 4) set_list))
      (av (bw (aI uN (fb PySem.F.plainAttrs_str PySem.F.slot_str_join PySem.F.type_str_join xa bc (aa (pv 7) af)) (pv 5) (by with_unfolding_all rfl))
      (av (cx (fb PySem.F.plainAttrs_list PySem.F.slot_list_append PySem.F.type_list_append cR (pv 5) (aa (fb PySem.F.plainAttrs_str PySem.F.slot_str_join PySem.F.type_str_join xa bc (aa (pv 7) af)) af))))
      bf)))))
      (av (aC (pv 5))))))))),?_⟩
    refine⟨_,rfl,b,4,rfl,hB,⟨by decide,by decide +kernel⟩,fun m H1 m0 m1 B1 X1=>⟨_,_,rfl,rfl,?_⟩⟩
    refine⟨_,rfl,b,8,rfl,B1,⟨by decide,by decide +kernel⟩,fun k H2 k0 k1 B2 X2=>⟨_,_,rfl,rfl,_,rfl,(by omega),(by omega),fun acc na=>?_⟩⟩
    refine me (lo:=0) (fun i ys Ge H'=>∃(v:Option V) (cs:List Nat),Ge=[v,some (.str qt),some (.ref b)]/\ys=(cs.map one).map V.str/\cs.length=i/\(∀c∈cs,97<=c/\c<=122)/\H' acc=some (.lst ys)/\cQ H' b/\Fix b H2 H') ?_ ?_ ?_ ?_
    . exact⟨none,[],rfl,rfl,rfl,(fun _ h=>nomatch h),ae,B2.new na,Fix.new na⟩
    . rintro i ys Ge H' hi ⟨v,cs,rfl,rfl,hl,_,ha,_⟩
      refine⟨ha,?_⟩
      rw [Gg,Gg]
      exact bF (by omega)
    . rintro i ys Ge H' hi ⟨v,cs,rfl,rfl,hl,hc,ha,B',X'⟩
      refine dB ?_
      refine lh ?_
      refine cD ?_
      refine⟨_,rfl,_,rfl,b,26,rfl,B',⟨by decide,by decide +kernel⟩,fun r H3 r0 r1 B3 X3=>?_⟩
      obtain⟨c,hat,c0,c1⟩:=zq r0 r1
      have hab:acc≠b:=B2.eV na
      have ha3:=X3 acc _ ha hab
      refine⟨qt,r,c,rfl,rfl,xb,hat,ha3,_,cs++[c],rfl,?_,?_,?_,ae,?_,?_⟩
      . rw [Gz,Gz];rfl
      . rw [Gr,hl];rfl
      . intro d hd
        rcases GW.mp hd with hd | hd
        . exact hc d hd
        . rw [Gp.mp hd];exact⟨c0,c1⟩
      . obtain⟨x,y,e,z⟩:=B3
        exact⟨x,y,by rw [ai hab.symm];exact e,z⟩
      . intro d o hd nd
        rw [ai (aw hd na)]
        exact (X'.trans X3) d o hd nd
    . rintro ys Ge H3 ⟨v,cs,rfl,rfl,hl,hc,ha,B3,X3⟩
      have hab:acc≠b:=B2.eV na
      have hl1:1<=cs.length:=by omega
      have hl8:cs.length<=8:=by omega
      have F3:Fix b H H3:=(X1.trans X2).trans X3
      have el:(((cs.map one).map V.str).length:Int)=cs.length:=by simp
      refine⟨_,rfl,_,rfl,acc,_,rfl,.inl (aY.of ha),b,_,rfl,B3,⟨by omega,il (by omega) (by omega)⟩,fun at_ H4 t0 t1 B4 X4=>?_⟩
      refine⟨(by show 0<=sizeLine;decide),fun nl nn=>?_⟩
      have hnb:nl≠b:=B4.eV nn
      have ha4:H4 acc=some (.lst ((cs.map one).map V.str)):=X4 acc _ ha hab
      have hna:nl≠acc:=fun z=>by rw [z,ha4] at nn;cases nn
      have F4:Fix b H H4:=F3.trans X4
      refine⟨_,rfl,_,rfl,(by omega),(by omega),jq (lo:=0) (fun i Gd H'=>∃(u1 u2:Option V) (xs:List Str),Gd=[some (.ref b),some (.str qt),some (.int (1+m)),some (.ref acc),some (.int at_),some (.ref nl),u1,u2] /\
        H' nl=some (.lst (xs.map V.str))/\xs.length<=i/\(0<i->xs≠[])/\(∀x∈xs,fZ x)/\H' acc=some (.lst ((cs.map one).map V.str))/\cQ H' b/\Fix b H H') ?_ ?_ ?_⟩
      . exact⟨_,_,[],rfl,ae,Gi _,(fun h=>absurd h (GY _)),(fun _ h=>nomatch h),(by rw [ai hna.symm];exact ha4),B4.new nn,F4.trans (Fix.new nn)⟩
      . rintro i Gd H' hi ⟨u1,u2,xs,rfl,hn,hx,hx0,aZ,ha',B',X'⟩
        refine⟨_,rfl,acc,_,rfl,.inl (aY.of ha'),fun nm mm=>?_⟩
        have nmb:nm≠b:=B'.eV mm
        have nma:nm≠acc:=fun z=>by rw [z,ha'] at mm;cases mm
        have nmn:nm≠nl:=fun z=>by rw [z,hn] at mm;cases mm
        refine⟨_,rfl,_,rfl,b,26,rfl,B'.new mm,⟨by decide,by decide +kernel⟩,fun r H5 r0 r1 B5 X5=>?_⟩
        obtain⟨c,hat,c0,c1⟩:=zq r0 r1
        have h5:H5 nm=some (.lst ((cs.map one).map V.str)):=X5 nm _ ae nmb
        have hn5:H5 nl=some (.lst (xs.map V.str)):=X5 nl _ (by rw [ai nmn.symm];exact hn) hnb
        have ha5:H5 acc=some (.lst ((cs.map one).map V.str)):=X5 acc _ (by rw [ai nma.symm];exact ha') hab
        obtain⟨j,rfl⟩:∃j:Nat,at_=j:=⟨at_.toNat,by omega⟩
        have hj:j<cs.length:=by omega
        have hix:oN ((cs.map one).map V.str).length (j:Int)=some j:=by
          unfold oN
          rw [if_pos (by omega),if_pos (by rw [el];omega)]
          simp
        refine⟨qt,r,c,rfl,rfl,xb,hat,_,rfl,_,rfl,nm,_,(j:Int),j,rfl,rfl,h5,hix,?_⟩
        have eset:((cs.map one).map V.str).set j (.str ⟨#[c]⟩)=((cs.set j c).map one).map V.str:=by
          rw [List.map_set,List.map_set];rfl
        rw [eset]
        have hc':∀d∈cs.set j c,97<=d/\d<=122:=fun d hd=>by
          rcases List.mem_or_eq_of_mem_set hd with hd | hd
          . exact hc d hd
          . rw [hd];exact⟨c0,c1⟩
        have hjl:(((cs.set j c).map one).map (·.length)).sum+((cs.set j c).map one).length*(Str.ofString "").length<=16777216:=by
          have e1:(Str.ofString "").length=0:=by decide +kernel
          have e2:∀l:List Nat,((l.map one).map (·.length)).sum=l.length:=by
            intro l
            induction l with
            | nil=>rfl
            | cons a l ih=>simp only [GS,List.sum_cons,ih,GZ];show 1+l.length=_;omega
          rw [e1,e2,Iq]
          omega
        have nk:fZ (Txt.join (Str.ofString "") ((cs.set j c).map one)):=by
          rw [AN]
          have ej:=L2.join_ones (cs.set j c)
          have eL:(Txt.join Str.empty ((cs.set j c).map one)).length=(cs.set j c).length:=by
            have:=congrArg Hx ej
            rw [G4] at this
            exact this
          refine⟨?_,?_,?_⟩
          . rw [eL,Iq];exact hl1
          . rw [eL,Iq];exact hl8
          . rw [ej];exact hc'
        have n6:upd H5 nm (.lst (((cs.set j c).map one).map V.str)) nl=some (.lst (xs.map V.str)):=by rw [ai nmn.symm];exact hn5
        have a6:upd H5 nm (.lst (((cs.set j c).map one).map V.str)) acc=some (.lst ((cs.map one).map V.str)):=by rw [ai nma.symm];exact ha5
        have B6:cQ (upd H5 nm (.lst (((cs.set j c).map one).map V.str))) b:=by
          obtain⟨x,y,e,z⟩:=B5
          exact⟨x,y,by rw [ai nmb.symm];exact e,z⟩
        have F6:Fix b H (upd H5 nm (.lst (((cs.set j c).map one).map V.str))):=fun d o hd nd=>by
          have h1:=X' d o hd nd
          have nd':d≠nm:=fun z=>by rw [z,mm] at h1;cases h1
          rw [ai nd']
          exact X5 d o (by rw [ai nd'];exact h1) nd
        have flat:(xs.map V.str).all iM=true:=by
          rw [Ie]
          intro v hv
          obtain⟨x,_,rfl⟩:=GH.mp hv
          rfl
        refine⟨rfl,_,rfl,_,nm,_,rfl,rfl,aY.of ae,hjl,_,rfl,nl,_,rfl,.inl (aY.of n6),rfl,flat,_,rfl,?_⟩
        refine cZ (fun hin=>?_) (fun hin=>?_)
        . refine⟨_,rfl,.inl ⟨rfl,_,aY.of n6⟩,rfl,_,rfl,_,nm,_,rfl,rfl,aY.of ae,hjl,nl,_,_,rfl,rfl,n6,?_,?_⟩
          . rw [Gg]
            have:i<4:=by omega
            exact bF (by omega)
          . refine⟨_,_,xs++[_],rfl,(by rw [ae,Gz];rfl),(by rw [Gr];exact Ht hx),(fun _=>by simp),?_,(by rw [ai hna.symm];exact a6),?_,?_⟩
            . intro x hxm
              rcases GW.mp hxm with hxm | hxm
              . exact aZ x hxm
              . rw [Gp.mp hxm];exact nk
            . obtain⟨x,y,e,z⟩:=B6
              exact⟨x,y,by rw [ai hnb.symm];exact e,z⟩
            . intro d o hd nd
              have h1:=F6 d o hd nd
              have nd':d≠nl:=fun z=>by
                have h2:=F4 d o hd nd
                rw [z,nn] at h2
                cases h2
              rw [ai nd']
              exact h1
        . have hx':xs≠[]:=by
            intro e
            subst e
            exact hin rfl
          exact⟨_,_,xs,rfl,n6,GP hx,fun _=>hx',aZ,a6,B6,F6⟩
      . rintro Gd H' ⟨u1,u2,xs,rfl,hn,hx,hx0,aZ,ha',B',X'⟩
        refine⟨_,rfl,?_⟩
        have hm:(1+m).toNat<=4:=by omega
        have hm0:0<(1+m).toNat:=by omega
        exact q nl xs H' ⟨hn,hnb,hx0 hm0,by omega,aZ⟩ (Gy hx hm) B' X'
theorem uk {f:Addr} {fd:FuncData} (F:bS K "_law_number" "_law_number" fP f fd) (Z:Bl mg) (O_law_take:Own P w K mg base "_law_take" 1 ["bag", "many"] gI):bh P w K mg base bQ 2 f fd ["bag"] ko:=by
  refine F.ok (k:=1) uh (fun vs H Q E h=>?_) (fun cdv A outer s H vs Q E hr h=>?_)
  . obtain⟨b,rfl,_⟩:=h
    rfl
  . obtain⟨b,rfl,hB,q⟩:=h
    refine⟨_,(ah (bw (aI bP (aB O_law_take (hr.mono (by decide)) rfl (aa (pv 0) (aa ao af))) ao (aQ _))
      (av (aC (bC kh (bC gH (bC gH (bC qd ao ao) ao) (aB O_law_take (hr.mono (by decide)) rfl (aa (pv 0) (aa ao af)))) (bC gH ao (bC kh ao (aB O_law_take (hr.mono (by decide)) rfl (aa (pv 0) (aa ao af))))))))
      bf)
      (av (aC (bC gH (aB O_law_take (hr.mono (by decide)) rfl (aa (pv 0) (aa ao af))) ao)))),?_⟩
    refine⟨_,rfl,b,8,rfl,hB,⟨by decide,by decide +kernel⟩,fun r H1 r0 r1 B1 X1=>⟨rfl,_,rfl,?_⟩⟩
    refine cZ (fun hc=>?_) (fun hc=>?_)
    . refine⟨10,40,rfl,rfl,⟨by decide,by decide,by decide⟩,_,_,rfl,rfl,?_⟩
      refine⟨_,rfl,b,3,rfl,B1,⟨by decide,by decide +kernel⟩,fun r2 H2 r20 r21 B2 X2=>⟨_,_,rfl,rfl,?_⟩⟩
      refine⟨_,rfl,b,2,rfl,B2,⟨by decide,by decide +kernel⟩,fun r3 H3 r30 r31 B3 X3=>?_⟩
      refine⟨_,_,rfl,rfl,.inl ⟨by decide,by decide⟩,_,_,rfl,rfl,_,_,rfl,rfl,.inr ⟨by omega,by omega⟩,?_⟩
      refine q _ H3 ?_ B3 ((X1.trans X2).trans X3)
      have e:(10:Int) ^ (40:Int).toNat=10 ^ 40:=by decide +kernel
      rw [e]
      obtain rfl | rfl:r3=0\/r3=1:=by omega
      . rw [show (1:Int)-2*0=1 by decide,Int.mul_one];unfold mf;omega
      . rw [show (1:Int)-2*1 = -1 by decide,Int.mul_neg,Int.mul_one];unfold mf;omega
    . refine⟨_,rfl,b,8,rfl,B1,⟨by decide,by decide +kernel⟩,fun r2 H2 r20 r21 B2 X2=>⟨_,_,rfl,rfl,?_⟩⟩
      exact q _ H2 (by unfold mf;omega) B2 (X1.trans X2)
theorem wB {f:Addr} {fd:FuncData} (F:bS K "_law_deed" "_law_deed" ia f fd) (Z:Bl mg) (O_law_take:Own P w K mg base "_law_take" 1 ["bag", "many"] gI) (O_law_number:Own P w K mg base "_law_number" 2 ["bag"] ko):bh P w K mg base bQ 3 f fd ["bag", "names"] uS:=by
  refine F.ok (k:=2) lB (fun vs H Q E h=>?_) (fun cdv A outer s H vs Q E hr h=>?_)
  . obtain⟨b,l,xs,rfl,_⟩:=h
    rfl
  . obtain⟨b,l,xs,rfl,hB,hN,q⟩:=h
    refine⟨_,(ah (aT (i:=2) lB.nd rfl (Gf rfl) (aF cy (cP (ja bc bc bc bc bc bc bc)) (aB O_law_take (hr.mono (by decide)) rfl (aa (pv 0) (aa ao af))) (fun _ _=>rfl)))
      (ah (aT (i:=3) lB.nd rfl (Gf rfl) (aF cy (pv 1) (aB O_law_take (hr.mono (by decide)) rfl (aa (pv 0) (aa (bb aV rfl Z.len bT (aa (pv 1) af)) af))) (fun _ _=>rfl)))
      (ah (bw (aI bP (pv 2) bc (aQ _))
      (av (aC (bx (aa (pv 2) (aa (pv 3) (aa (aF cy (pv 1) (aB O_law_take (hr.mono (by decide)) rfl (aa (pv 0) (aa (bb aV rfl Z.len bT (aa (pv 1) af)) af))) (fun _ _=>rfl)) af))))))
      bf)
      (ah (bw (PW.pt (BS (aI bP (pv 2) bc (aQ _)) (yZ (aI bP (pv 2) bc (aQ _)))))
      (av (aC (bx (aa (pv 2) (aa (pv 3) (aa (aB O_law_number (hr.mono (by decide)) rfl (aa (pv 0) af)) af))))))
      bf)
      (av (aC (bx (aa (pv 2) (aa (pv 3) af))))))))),?_⟩
    refine⟨m9,fun l0 m0=>?_⟩
    refine⟨_,rfl,b,7,rfl,hB.new m0,⟨by decide,by decide +kernel⟩,fun r H1 r0 r1 B1 X1=>?_⟩
    have h0:H1 l0=some (.lst [.str "put",.str "copy",.str "add",.str "read",.str "tell",.str "tell",.str "add"]):=X1 l0 _ ae (hB.eV m0)
    have F1:Fix b H H1:=(Fix.new m0).trans X1
    have N1:=hN.fix F1
    have hw:∃w:Str,(w = "put" \/ w = "copy" \/ w = "add" \/ w = "read" \/ w = "tell")/\fw [V.str "put",.str "copy",.str "add",.str "read",.str "tell",.str "tell",.str "add"] r=some (V.str w):=by
      obtain rfl | rfl | rfl | rfl | rfl | rfl | rfl:r=0\/r=1\/r=2\/r=3\/r=4\/r=5\/r=6:=by omega
      . exact⟨_,.inl rfl,bI (j:=0) rfl⟩
      . exact⟨_,.inr (.inl rfl),bI (j:=1) rfl⟩
      . exact⟨_,.inr (.inr (.inl rfl)),bI (j:=2) rfl⟩
      . exact⟨_,.inr (.inr (.inr (.inl rfl))),bI (j:=3) rfl⟩
      . exact⟨_,.inr (.inr (.inr (.inr rfl))),bI (j:=4) rfl⟩
      . exact⟨_,.inr (.inr (.inr (.inr rfl))),bI (j:=5) rfl⟩
      . exact⟨_,.inr (.inr (.inl rfl)),bI (j:=6) rfl⟩
    obtain⟨w,hw,hat⟩:=hw
    refine⟨l0,_,r,_,rfl,rfl,aY.of h0,hat,?_⟩
    obtain⟨p0,p1⟩:=N1.pos
    refine⟨_,rfl,_,rfl,_,rfl,l,_,rfl,.inl (aY.of N1.at_),b,_,rfl,B1,⟨p0,il p0 p1⟩,fun r2 H2 r20 r21 B2 X2=>?_⟩
    have N2:=N1.fix X2
    obtain⟨x,hx,hxm⟩:=pf r20 r21
    refine⟨l,_,r2,_,rfl,rfl,aY.of N2.at_,hx,?_⟩
    refine⟨_,rfl,rfl,_,rfl,?_⟩
    rcases hw with rfl | rfl | rfl | rfl | rfl
    ·
      rw [show decide (V.str "put" = V.str "copy")=false by decide +kernel]
      refine cq ⟨_,rfl,rfl,_,rfl,?_⟩
      rw [show decide (V.str "put" = V.str "put")=true by decide +kernel]
      refine cD (cD ⟨_,rfl,_,rfl,_,rfl,b,rfl,B2,fun n H3 nk B3 X3=>⟨uP,fun t mt=>?_⟩⟩)
      exact q _ (.put x n) _ (.tup ae (.cons (.str _) (.cons (.str _) (.cons (.int _) .nil)))) ⟨hxm,nk⟩ (B3.new mt) (((F1.trans X2).trans X3).trans (Fix.new mt))
    ·
      rw [show decide (V.str "copy" = V.str "copy")=true by decide +kernel]
      obtain⟨p0,p1⟩:=N2.pos
      refine cD ⟨_,rfl,_,rfl,_,rfl,_,rfl,_,rfl,l,_,rfl,.inl (aY.of N2.at_),b,_,rfl,B2,⟨p0,il p0 p1⟩,fun r3 H3 r30 r31 B3 X3=>?_⟩
      have N3:=N2.fix X3
      obtain⟨y,hy,hym⟩:=pf r30 r31
      refine⟨l,_,r3,_,rfl,rfl,aY.of N3.at_,hy,uP,fun t mt=>?_⟩
      exact q _ (.copy x y) _ (.tup ae (.cons (.str _) (.cons (.str _) (.cons (.str _) .nil)))) ⟨hxm,hym⟩ (B3.new mt) (((F1.trans X2).trans X3).trans (Fix.new mt))
    ·
      rw [show decide (V.str "add" = V.str "copy")=false by decide +kernel]
      refine cq ⟨_,rfl,rfl,_,rfl,?_⟩
      rw [show decide (V.str "add" = V.str "put")=false by decide +kernel]
      refine cq ⟨_,rfl,rfl,_,rfl,?_⟩
      rw [show decide (V.str "add" = V.str "add")=true by decide +kernel]
      refine cD ⟨_,rfl,_,rfl,_,rfl,b,rfl,B2,fun n H3 nk B3 X3=>⟨uP,fun t mt=>?_⟩⟩
      exact q _ (.add x n) _ (.tup ae (.cons (.str _) (.cons (.str _) (.cons (.int _) .nil)))) ⟨hxm,nk⟩ (B3.new mt) (((F1.trans X2).trans X3).trans (Fix.new mt))
    ·
      rw [show decide (V.str "read" = V.str "copy")=false by decide +kernel]
      refine cq ⟨_,rfl,rfl,_,rfl,?_⟩
      rw [show decide (V.str "read" = V.str "put")=false by decide +kernel]
      refine cq ⟨_,rfl,rfl,_,rfl,?_⟩
      rw [show decide (V.str "read" = V.str "add")=false by decide +kernel]
      refine cq ⟨_,rfl,_,rfl,ln2,fun t mt=>?_⟩
      exact q _ (.read x) _ (.tup ae (.cons (.str _) (.cons (.str _) .nil))) hxm (B2.new mt) ((F1.trans X2).trans (Fix.new mt))
    ·
      rw [show decide (V.str "tell" = V.str "copy")=false by decide +kernel]
      refine cq ⟨_,rfl,rfl,_,rfl,?_⟩
      rw [show decide (V.str "tell" = V.str "put")=false by decide +kernel]
      refine cq ⟨_,rfl,rfl,_,rfl,?_⟩
      rw [show decide (V.str "tell" = V.str "add")=false by decide +kernel]
      refine cq ⟨_,rfl,_,rfl,ln2,fun t mt=>?_⟩
      exact q _ (.tell x) _ (.tup ae (.cons (.str _) (.cons (.str _) .nil))) hxm (B2.new mt) ((F1.trans X2).trans (Fix.new mt))
theorem yR {f:Addr} {fd:FuncData} (F:bS K "_law_end" "_law_end" iJ f fd) (Z:Bl mg) (O_law_take:Own P w K mg base "_law_take" 1 ["bag", "many"] gI) (O_law_number:Own P w K mg base "_law_number" 2 ["bag"] ko):bh P w K mg base bQ 3 f fd ["bag", "names", "count"] uT:=by
  refine F.ok (k:=2) jU (fun vs H Q E h=>?_) (fun cdv A outer s H vs Q E hr h=>?_)
  . obtain⟨b,l,xs,c,rfl,_⟩:=h
    rfl
  . obtain⟨b,l,xs,c,rfl,hB,hN,c0,c1,q⟩:=h
    refine⟨_,(ah (aT (i:=3) jU.nd rfl (Gf rfl) (aB O_law_take (hr.mono (by decide)) rfl (aa (pv 0) (aa ao af))))
      (ah (bw (aI bP (pv 3) ao (aQ _))
      (av (aC (bx (aa bc af))))
      bf)
      (ah (bw (aI gU (pv 3) ao (aQ _))
      (av (aC (bx (aa bc (aa (aB O_law_take (hr.mono (by decide)) rfl (aa (pv 0) (aa (pv 2) af))) af)))))
      bf)
      (ah (aT (i:=4) jU.nd rfl (Gf rfl) (aF cy (cP (aa bc (aa bc af))) (bC wO (aB O_law_take (hr.mono (by decide)) rfl (aa (pv 0) (aa ao af))) ao) (fun _ _=>rfl)))
      (ah (aT (i:=5) jU.nd rfl (Gf rfl) (aF cy (pv 1) (aB O_law_take (hr.mono (by decide)) rfl (aa (pv 0) (aa (bb aV rfl Z.len bT (aa (pv 1) af)) af))) (fun _ _=>rfl)))
      (av (aC (bx (aa (pv 4) (aa (pv 5) (aa (aB O_law_number (hr.mono (by decide)) rfl (aa (pv 0) af)) (aa (aB O_law_take (hr.mono (by decide)) rfl (aa (pv 0) (aa (pv 2) af))) (aa (aB O_law_take (hr.mono (by decide)) rfl (aa (pv 0) (aa (pv 2) af))) af))))))))))))),?_⟩
    have ck:(0:Int)<(c:Int)/\(c:Int).natAbs.log2<9000:=⟨by omega,il (by omega) (by omega)⟩
    refine⟨_,rfl,b,9,rfl,hB,⟨by decide,by decide +kernel⟩,fun r H1 r0 r1 B1 X1=>?_⟩
    refine⟨_,rfl,rfl,_,rfl,?_⟩
    refine cZ (fun hc=>?_) (fun hc=>?_)
    . refine⟨wY,fun t mt=>?_⟩
      exact q _ .stop _ (.tup ae (.cons (.str _) .nil)) True.intro (B1.new mt) (X1.trans (Fix.new mt))
    refine⟨_,rfl,_,_,rfl,rfl,_,rfl,?_⟩
    refine cZ (fun hd=>?_) (fun hd=>?_)
    . refine⟨_,rfl,_,rfl,b,_,rfl,B1,ck,fun p H2 p0 p1 B2 X2=>⟨ln2,fun t mt=>?_⟩⟩
      obtain⟨k,rfl⟩:∃k:Nat,p=k:=⟨p.toNat,by omega⟩
      exact q _ (.go k) _ (.tup ae (.cons (.str _) (.cons (.int _) .nil))) (show k<c by omega) (B2.new mt) ((X1.trans X2).trans (Fix.new mt))
    . refine⟨ln2,fun l0 m0=>?_⟩
      refine⟨_,rfl,b,3,rfl,B1.new m0,⟨by decide,by decide +kernel⟩,fun z H2 z0 z1 B2 X2=>⟨_,_,rfl,rfl,⟨by decide,by decide⟩,?_⟩⟩
      have h0:H2 l0=some (.lst [.str "less",.str "is"]):=X2 l0 _ ae (B1.eV m0)
      have hw:∃w:Bool,fw [V.str "less",V.str "is"] (z / 2)=some (V.str (wT w)):=by
        obtain h | h:z / 2=0\/z / 2=1:=by omega
        . rw [h];exact⟨true,bM⟩
        . rw [h];exact⟨false,cW⟩
      obtain⟨w,hat⟩:=hw
      refine⟨l0,_,_,_,rfl,rfl,aY.of h0,hat,?_⟩
      have F2:Fix b H H2:=(X1.trans (Fix.new m0)).trans X2
      have N2:=hN.fix F2
      obtain⟨p0,p1⟩:=N2.pos
      refine⟨_,rfl,_,rfl,_,rfl,l,_,rfl,.inl (aY.of N2.at_),b,_,rfl,B2,⟨p0,il p0 p1⟩,fun r3 H3 r30 r31 B3 X3=>?_⟩
      have N3:=N2.fix X3
      obtain⟨x,hx,hxm⟩:=pf r30 r31
      refine⟨l,_,r3,_,rfl,rfl,aY.of N3.at_,hx,?_⟩
      refine⟨_,rfl,_,rfl,_,rfl,b,rfl,B3,fun n H4 nk B4 X4=>?_⟩
      refine⟨_,rfl,_,rfl,b,_,rfl,B4,ck,fun p H5 p0 p1 B5 X5=>?_⟩
      refine⟨_,rfl,_,rfl,b,_,rfl,B5,ck,fun p' H6 p0' p1' B6 X6=>⟨FX,fun t mt=>?_⟩⟩
      obtain⟨k,rfl⟩:∃k:Nat,p=k:=⟨p.toNat,by omega⟩
      obtain⟨k',rfl⟩:∃k:Nat,p' = k:=⟨p'.toNat,by omega⟩
      exact q _ (.cE w x n k k') _ (.tup ae (.cons (.str _) (.cons (.str _) (.cons (.int _) (.cons (.int _) (.cons (.int _) .nil)))))) ⟨hxm,nk,by omega,by omega⟩ (B6.new mt) ((((F2.trans X3).trans X4).trans (X5.trans X6)).trans (Fix.new mt))
theorem wC {f:Addr} {fd:FuncData} (F:bS K "_law_plan" "_law_plan" ib f fd) (Z:Bl mg) (O_law_take:Own P w K mg base "_law_take" 1 ["bag", "many"] gI) (O_law_names:Own P w K mg base "_law_names" 2 ["bag"] rJ) (O_law_deed:Own P w K mg base "_law_deed" 3 ["bag", "names"] uS) (O_law_end:Own P w K mg base "_law_end" 3 ["bag", "names", "count"] uT):bh P w K mg base bQ 4 f fd ["bag", "count", "most"] uU:=by
  refine F.ok (k:=3) gr (fun vs H Q E h=>?_) (fun cdv A outer s H vs Q E hr h=>?_)
  . obtain⟨b,c,m,rfl,_⟩:=h
    rfl
  . obtain⟨b,c,m,rfl,hB,c0,c1,hm,q⟩:=h
    refine⟨_,(ah (aT (i:=3) gr.nd rfl (GO rfl) (aB O_law_names (hr.mono (by decide)) rfl (aa (pv 0) af)))
      (ah (aT (i:=4) gr.nd rfl (Gf rfl) (cP af))
      (ah (fY PassesOwn.never rfl (fo rfl Z.range (aa (pv 1) af)) (aG (i:=5) gr.nd rfl (Gf rfl))
      (ah (aT (i:=6) gr.nd rfl (Gf rfl) (aB O_law_take (hr.mono (by decide)) rfl (aa (pv 0) (aa (bC dm (pv 2) ao) af))))
      (ah (aT (i:=7) gr.nd rfl (Gf rfl) (aB O_law_end (hr.mono (by decide)) rfl (aa (pv 0) (aa (pv 3) (aa (pv 1) af)))))
      (av (cx (fb PySem.F.plainAttrs_list PySem.F.slot_list_append PySem.F.type_list_append cR (pv 4) (aa (bx (aa (bA bu rfl Z.tuple cb (aa (fR ["j"] ["bag", "names"] [0,3] rfl (fo rfl Z.range (aa (pv 6) af)) rfl (by decide +kernel) (by decide +kernel) (by decide +kernel) ⟨⟨rfl,.inl rfl,rfl⟩,⟨⟨rfl,.inl rfl,rfl⟩,True.intro⟩⟩ (fun _ _ _ _=>(aG (i:=0) (show ((["j"]:List Str)++(["bag", "names"]:List Str)).Nodup by decide +kernel) rfl (Gf rfl) (hf:=GO rfl))) (fun _ _ _ _=>gf) (fun _ _ _ _=>(aB O_law_deed (hr.mono (by decide)) rfl (aa (pv 1) (aa (pv 2) af))))) af)) (aa (pv 7) af))) af)))))))
      (av (aC (bA bu rfl Z.tuple cb (aa (pv 4) af))))))),?_⟩
    refine⟨_,rfl,b,rfl,hB,fun l xs H1 N1 x4 B1 X1=>?_⟩
    refine⟨(by show 0<=sizeLine;decide),fun pl pn=>?_⟩
    have hpb:pl≠b:=B1.eV pn
    refine⟨_,rfl,_,rfl,(by omega),(by omega),jq (lo:=0) (fun i Gd H'=>∃(u1 u2 u3:Option V) (ps:List Piece) (vs:List V),Gd=[some (.ref b),some (.int c),some (.int m),some (.ref l),some (.ref pl),u1,u2,u3] /\
      H' pl=some (.lst vs)/\br H' vs (ps.map df)/\ps.length=i/\(∀p∈ps,(p.1.length<=m/\∀d∈p.1,eW xs d)/\iO xs c p.2)/\gW H' b l xs/\cQ H' b/\Fix b H H'/\(∀d o,H1 d=some o->d≠b->H' d=some o)) ?_ ?_ ?_⟩
    . exact⟨_,_,_,[],[],rfl,ae,.nil,rfl,(fun _ h=>nomatch h),N1.fix (Fix.new pn),B1.new pn,X1.trans (Fix.new pn),Fix.new pn⟩
    . rintro i Gd H' hi ⟨u1,u2,u3,ps,vs,rfl,hp,hr,hl,aZ,N',B',X',Y'⟩
      refine⟨_,rfl,_,rfl,_,_,rfl,rfl,b,_,rfl,B',⟨by omega,il (by omega) (by omega)⟩,fun k H2 k0 k1 B2 X2=>?_⟩
      have N2:=N'.fix X2
      refine⟨_,rfl,_,rfl,_,rfl,b,l,xs,c,rfl,B2,N2,c0,(by omega),fun ev e H3 re ek B3 X3=>?_⟩
      have N3:=N2.fix X3
      have hp3:H3 pl=some (.lst vs):=(X2.trans X3) pl _ hp hpb
      have hr3:br H3 vs (ps.map df):=hr.fix B' (X2.trans X3) (bg ps)
      refine⟨_,rfl,.inl ⟨rfl,_,aY.of hp3⟩,_,rfl,_,rfl,(by omega),(by omega),fun acc na=>?_⟩
      have hab:acc≠b:=B3.eV na
      refine me (lo:=0) (fun i ys Ge H'=>∃(v:Option V) (ds:List cH),Ge=[v,some (.ref b),some (.ref l)]/\br H' ys (ds.map dI)/\ds.length=i/\(∀d∈ds,eW xs d)/\H' acc=some (.lst ys)/\cQ H' b/\Fix b H3 H') ?_ ?_ ?_ ?_
      . exact⟨none,[],rfl,.nil,rfl,(fun _ h=>nomatch h),ae,B3.new na,Fix.new na⟩
      . rintro i' ys Ge H4 hi' ⟨v,ds,rfl,rds,hl',_,ha,_⟩
        refine⟨ha,?_⟩
        rw [rds.len,Gg]
        exact bF (by omega)
      . rintro i' ys Ge H4 hi' ⟨v,ds,rfl,rds,hl',hdk,ha,B4,X4⟩
        refine dB ?_
        refine lh ?_
        refine cD ?_
        refine⟨_,rfl,_,rfl,b,l,xs,rfl,B4,N3.fix X4,fun dv d H5 rd dk B5 X5=>?_⟩
        have ha5:=X5 acc _ ha hab
        refine⟨ha5,_,ds++[d],rfl,?_,(by rw [Gr,hl'];rfl),?_,ae,?_,?_⟩
        . rw [Gz]
          refine br.app ((rds.fix B4 X5 (cw ds)).put ha5 (cw ds)) ?_
          exact rd.bp (fun p zs e=>by rw [ai (bB e ha5 (by intro z;cases z))];exact e) (oP d)
        . intro d' hd
          rcases GW.mp hd with hd | hd
          . exact hdk d' hd
          . rw [Gp.mp hd];exact dk
        . obtain⟨x,y,e,z⟩:=B5
          exact⟨x,y,by rw [ai hab.symm];exact e,z⟩
        . intro d' o hd nd
          rw [ai (aw hd na)]
          exact (X4.trans X5) d' o hd nd
      . rintro ys Ge H4 ⟨v,ds,rfl,rds,hl',hdk,ha,B4,X4⟩
        refine⟨acc,ys,rfl,.inl ⟨aY.of ha,fun tp tn=>?_⟩⟩
        refine⟨_,rfl,ln2,fun pc pcn=>?_⟩
        have S6:ar H4 (upd (upd H4 tp (.tup ys)) pc (.tup [.ref tp,ev])):=(ar.new tn).trans (ar.new pcn)
        have hp6:(upd (upd H4 tp (.tup ys)) pc (.tup [.ref tp,ev])) pl=some (.lst vs):=S6 _ _ (X4 pl _ hp3 hpb)
        refine⟨pl,_,_,rfl,rfl,hp6,?_,?_⟩
        . rw [hr.len,Gg,hl]
          exact bF (by omega)
        have hpiece:aX (upd (upd H4 tp (.tup ys)) pc (.tup [.ref tp,ev])) (.ref pc) (df (ds,e)):=by
          refine .tup ae (.cons (.tup (ar.new pcn _ _ ae) (rds.same S6 (cw ds))) (.cons ?_ .nil))
          exact (re.fix B3 X4 (mh e)).same S6 (mh e)
        have F6:Fix b H (upd (upd H4 tp (.tup ys)) pc (.tup [.ref tp,ev])):=((X'.trans (X2.trans X3)).trans X4).trans (Fix.of_same S6)
        have plH:∀d o,H1 d=some o->d≠b->d≠pl:=fun d o hd nd z=>by rw [z,pn] at hd;cases hd
        refine⟨_,_,_,ps++[(ds,e)],vs++[.ref pc],rfl,ae,?_,(by rw [Gr,hl];rfl),?_,?_,?_,?_,?_⟩
        . rw [Gz]
          refine br.app (((hr3.fix B3 X4 (bg ps)).same S6 (bg ps)).put hp6 (bg ps)) ?_
          exact hpiece.bp (fun p zs e=>by rw [ai (bB e hp6 (by intro z;cases z))];exact e) (gJ (ds,e))
        . intro p hpm
          rcases GW.mp hpm with hpm | hpm
          . exact aZ p hpm
          . rw [Gp.mp hpm]
            exact⟨⟨by show ds.length<=m;omega,hdk⟩,ek⟩
        . have hll:l≠pl:=fun z=>by
            have:=N1.at_
            rw [z,pn] at this
            cases this
          have N6:=(N3.fix X4).fix (Fix.of_same (b:=b) S6)
          exact⟨by rw [ai hll];exact N6.at_,N6.ne,N6.x9,N6.bK,N6.ok⟩
        . obtain⟨x,y,e',z⟩:=B4.same S6
          exact⟨x,y,by rw [ai hpb.symm];exact e',z⟩
        . intro d o hd nd
          have h1:=X1 d o hd nd
          rw [ai (plH d o h1 nd)]
          exact F6 d o hd nd
        . intro d o hd nd
          rw [ai (plH d o hd nd)]
          exact S6 d o (X4 d o ((X2.trans X3) d o (Y' d o hd nd) nd) nd)
    . rintro Gd H' ⟨u1,u2,u3,ps,vs,rfl,hp,hr,hl,aZ,N',B',X',Y'⟩
      have hl':ps.length=c:=by rw [hl];omega
      refine⟨_,rfl,pl,_,rfl,.inl ⟨aY.of hp,fun tp tn=>?_⟩⟩
      refine q (.ref tp) xs ps _ (.tup ae (hr.same (ar.new tn) (bg ps))) hl' ⟨fun p hpm=>(aZ p hpm).1,fun p hpm=>?_⟩ ⟨N'.ok,x4⟩ (B'.new tn) (X'.trans (Fix.new tn))
      rw [hl']
      exact (aZ p hpm).2
theorem vW {f:Addr} {fd:FuncData} (F:bS K "_law_count" "_law_count" gu f fd) (Z:Bl mg) (O_law_take:Own P w K mg base "_law_take" 1 ["bag", "many"] gI):bh P w K mg base bQ 2 f fd ["bag", "most"] rK:=by
 refine F.ok (k:=1) vS (fun vs H Q E h=>?_) (fun cdv A outer s H vs Q E hr h=>?_)
 ·obtain⟨b,m,rfl,_⟩:=h
  rfl
 ·obtain⟨b,m,rfl,hB,m0,m1,q⟩:=h
  refine⟨_,(av (aC (aF cy (cP (aa (bC dm ao (aB O_law_take (hr.mono (by decide)) rfl (aa (pv 0) (aa (pv 1) af)))) (aa (bC dm ao (aB O_law_take (hr.mono (by decide)) rfl (aa (pv 0) (aa (bb (m4 rfl) rfl Z.min qo (aa ao (aa (pv 1) af))) af)))) (aa (pv 1) af)))) (aB O_law_take (hr.mono (by decide)) rfl (aa (pv 0) (aa ao af))) (fun _ _=>rfl)))),?_⟩
  refine⟨_,rfl,_,rfl,b,_,rfl,hB,⟨by omega,il (by omega) (by omega)⟩,fun r H1 r0 r1 B1 X1=>⟨_,_,rfl,rfl,?_⟩⟩
  refine⟨_,rfl,_,rfl,_,_,rfl,b,_,rfl,B1,⟨(by split <;> omega),il (by split <;> omega) (by split <;> omega)⟩,fun r2 H2 r20 r21 B2 X2=>⟨_,_,rfl,rfl,?_⟩⟩
  refine⟨_,rfl,uP,fun l0 n0=>?_⟩
  refine⟨_,rfl,b,3,rfl,B2.new n0,⟨by decide,by decide +kernel⟩,fun z H3 z0 z1 B3 X3=>?_⟩
  have h0:H3 l0=some (.lst [.int (1+r),.int (1+r2),.int m]):=X3 l0 _ ae (B2.eV n0)
  have hr2:r2<4:=by
   have:=r21
   split at this <;> omega
  have F3:Fix b H H3:=((X1.trans X2).trans (Fix.new n0)).trans X3
  obtain rfl | rfl | rfl:z=0\/z=1\/z=2:=by omega
  ·refine⟨l0,_,0,_,rfl,rfl,aY.of h0,bM,?_⟩
   have e:(1+r)=(((1+r).toNat:Nat):Int):=by omega
   rw [e]
   exact q _ H3 (by omega) (by omega) B3 F3
  ·refine⟨l0,_,1,_,rfl,rfl,aY.of h0,cW,?_⟩
   have e:(1+r2)=(((1+r2).toNat:Nat):Int):=by omega
   rw [e]
   exact q _ H3 (by omega) (by omega) B3 F3
  ·refine⟨l0,_,2,_,rfl,rfl,aY.of h0,at2,?_⟩
   exact q _ H3 m0 (by omega) B3 F3
theorem wF {f:Addr} {fd:FuncData} (F:bS K "_law_step" "_law_step" ic f fd) (Z:Bl mg)  : bh P w K mg base bQ 1 f fd ["plan", "state", "numbers"] sG:=by
 refine F.ok (k:=0) bV (fun vs H Q E h=>?_) (fun cdv A outer s H vs Q E hr h=>?_)
 ·obtain⟨plv,st,np,d,tl,bl,ps,nums,S,m,rfl,_⟩:=h
  rfl
 ·obtain⟨plv,st,np,d,tl,bl,ps,nums,S,m,rfl,hp,hin,hnp,A,hpc,htk,hm,q⟩:=h
  refine⟨_,(ah (cG (cV (pv 1) (cU rfl (aR (aG (i:=3) bV.nd rfl (Gf rfl)) (aR (aG (i:=4) bV.nd rfl (Gf rfl)) (aR (aG (i:=5) bV.nd rfl (Gf rfl)) (aR (aG (i:=6) bV.nd rfl (Gf rfl)) (aR (aG (i:=7) bV.nd rfl (Gf rfl)) (aR (aG (i:=8) bV.nd rfl (Gf rfl)) (aR (aG (i:=9) bV.nd rfl (Gf rfl)) cI))))))))))
   (ah (cG (cV (aF aK (pv 0) (pv 3) (fun _ _=>rfl)) (cU rfl (aR (aG (i:=10) bV.nd rfl (Gf rfl)) (aR (aG (i:=11) bV.nd rfl (Gf rfl)) cI)))))
   (ah (bw (aI gU (pv 4) (bb aV rfl Z.len bT (aa (pv 10) af)) (aQ _))
   (ah (aT (i:=12) bV.nd rfl (Gf rfl) (aF aK (pv 10) (pv 4) (fun _ _=>rfl)))
   (ah (cG (aT (i:=13) bV.nd rfl (Gf rfl) (fQ (dn hr) (pv 5) (aF aK (pv 12) ao (fun _ _=>rfl)) ao ⟨rfl,rfl,rfl,rfl⟩)))
   (ah (bw (aI bP (aF aK (pv 12) ao (fun _ _=>rfl)) bc (aQ _))
   (av (fI (dn hr) (pv 5) (aF aK (pv 12) ao (fun _ _=>rfl)) (aF aK (pv 12) ao (fun _ _=>rfl)) rfl))
   bf)
   (ah (bw (aI bP (aF aK (pv 12) ao (fun _ _=>rfl)) bc (aQ _))
   (av (fI (dn hr) (pv 5) (aF aK (pv 12) ao (fun _ _=>rfl)) (fQ (dn hr) (pv 5) (aF aK (pv 12) ao (fun _ _=>rfl)) ao ⟨rfl,rfl,rfl,rfl⟩) rfl))
   bf)
   (ah (bw (aI bP (aF aK (pv 12) ao (fun _ _=>rfl)) bc (aQ _))
   (av (fI (dn hr) (pv 5) (aF aK (pv 12) ao (fun _ _=>rfl)) (bC dm (pv 13) (aF aK (pv 12) ao (fun _ _=>rfl))) rfl))
   bf)
   (ah (bw (aI bP (aF aK (pv 12) ao (fun _ _=>rfl)) bc (aQ _))
   (av (cx (fb PySem.F.plainAttrs_list PySem.F.slot_list_append PySem.F.type_list_append cR (pv 7) (aa (pv 13) af))))
   bf)
   (ah (bw (aI bP (aF aK (pv 12) ao (fun _ _=>rfl)) bc (aQ _))
   (ah (bw (aI bP (pv 6) (bb aV rfl Z.len bT (aa (pv 2) af)) (aQ _))
   (av (aC (bx (ja (pv 3) (pv 4) (pv 5) (pv 6) (pv 7) bc (pv 9)))))
   bf)
   (ah (fI (dn hr) (pv 5) (aF aK (pv 12) ao (fun _ _=>rfl)) (aF aK (pv 2) (pv 6) (fun _ _=>rfl)) rfl)
   (av (aT (i:=6) bV.nd rfl (Gf rfl) (bC dm (pv 6) ao)))))
   bf)
   (av (aC (bx (ja (pv 3) (bC dm (pv 4) ao) (pv 5) (pv 6) (pv 7) (pv 8) (pv 9))))))))))))
   bf)
   (ah (bw (aI bP (aF aK (pv 11) ao (fun _ _=>rfl)) bc (aQ _))
   (av (aC (bx (ja (pv 3) (pv 4) (pv 5) (pv 6) (pv 7) bc (pv 9)))))
   bf)
   (ah (bw (aI bP (aF aK (pv 11) ao (fun _ _=>rfl)) bc (aQ _))
   (av (aT (i:=14) bV.nd rfl (Gf rfl) (aF aK (pv 11) ao (fun _ _=>rfl))))
   (ah (cG (aT (i:=13) bV.nd rfl (Gf rfl) (fQ (dn hr) (pv 5) (aF aK (pv 11) ao (fun _ _=>rfl)) ao ⟨rfl,rfl,rfl,rfl⟩)))
   (ah (aT (i:=15) bV.nd rfl (Gf rfl) (aF cy (cP (aa (fH gU (pv 13) (aF aK (pv 11) ao (fun _ _=>rfl)) (aQ _)) (aa (fH bP (pv 13) (aF aK (pv 11) ao (fun _ _=>rfl)) (aQ _)) af))) (bA sR rfl Z.int zl (aa (fH bP (aF aK (pv 11) ao (fun _ _=>rfl)) bc (aQ _)) af)) (fun _ _=>rfl)))
   (av (aT (i:=14) bV.nd rfl (Gf rfl) (aF aK (pv 11) (bC gH ao (bA sR rfl Z.int zl (aa (pv 15) af))) (fun _ _=>rfl)))))))
   (ah (cx (fb PySem.F.plainAttrs_list PySem.F.slot_list_append PySem.F.type_list_append cR (pv 9) (aa (pv 14) af)))
   (av (aC (bx (ja (pv 14) ao (pv 5) (pv 6) (pv 7) (pv 8) (pv 9))))))))))),?_⟩
  obtain⟨kvs,hd,dw,hk⟩:=A.dict
  have hx:ps[S.aP]?=some ps[S.aP]:=by simp [hpc]
  generalize hpe:ps[S.aP]=pe at hx
  obtain⟨ds,e⟩:=pe
  obtain⟨p,xs,pc,da,ea,vs,rfl,e1,el,hx',e2,e3,r3,e4⟩:=eX hp hx
  have hvl:vs.length=ds.length:=by rw [r3.len,Gg]
  have ndt:d≠tl:=bB hd A.told (by intro z;cases z)
  have ndb:d≠bl:=bB hd A.bX (by intro z;cases z)
  refine⟨fun σ' H'=>σ' = [some (.ref p),some (.ref st),some (.ref np),some (.int S.aP),some (.int S.place),some (.ref d),some (.int S.taken),some (.ref tl),some (.str S.word),some (.ref bl),none,none,none,none,none,none]/\H=H',⟨_,rfl,st,_,rfl,ay.of A.at_,rfl,_,_,rfl,_,_,rfl,_,_,rfl,_,_,rfl,_,_,rfl,_,_,rfl,_,_,rfl,rfl,rfl,rfl⟩,?_⟩
  rintro σ' H' ⟨rfl,rfl⟩
  refine⟨fun σ' H''=>σ' = [some (.ref p),some (.ref st),some (.ref np),some (.int S.aP),some (.int S.place),some (.ref d),some (.int S.taken),some (.ref tl),some (.str S.word),some (.ref bl),some (.ref da),some (.ref ea),none,none,none,none]/\H=H'',⟨_,rfl,_,rfl,p,xs,_,_,rfl,rfl,ay.of e1,bI hx',pc,_,rfl,ay.of e2,rfl,_,_,rfl,_,_,rfl,rfl,rfl,rfl⟩,?_⟩
  rintro σ' H'' ⟨rfl,rfl⟩
  refine⟨_,rfl,_,rfl,da,_,rfl,.inr (ay.of e3),_,_,rfl,rfl,_,rfl,?_⟩
  refine cZ (fun hc=>?_) (fun hc=>?_)
  ·have hlt:S.place<vs.length:=by have:=of_decide_eq_true hc;omega
   have hdd:ds[S.place]?=some (ds[S.place]'(by omega)):=by simp [show S.place<ds.length by omega]
   generalize hde:ds[S.place]'(by omega)=dd at hdd
   have hs:=jt (nums:=nums) hx hdd
   obtain⟨v,hv,rd⟩:=r3.get (i:=S.place) (d:=dI dd) (by rw [GI,hdd];rfl)
   obtain⟨dp,rfl,hdp⟩:=lM rd
   have nd:dp≠d:=bB hdp hd (by intro z;cases z)
   refine⟨_,rfl,_,rfl,da,_,_,_,rfl,rfl,ay.of e3,bI hv,?_⟩
   clear hde
   cases dd
   case put x n =>
    refine⟨fun σ' H1=>σ' = [some (.ref p),some (.ref st),some (.ref np),some (.int S.aP),some (.int S.place),some (.ref d),some (.int S.taken),some (.ref tl),some (.str S.word),some (.ref bl),some (.ref da),some (.ref ea),some (.ref dp),some (.int (S.w x)),none,none]/\H=H1,⟨_,rfl,d,rfl,.inl ⟨kvs,.inl hd⟩,_,rfl,dp,_,1,_,rfl,rfl,ay.of hdp,cW,_,_,dU.k (k:=Sum.inr x) hd,dw x,rfl,rfl⟩,?_⟩
    rintro σ' H1 ⟨rfl,rfl⟩
    refine⟨_,rfl,dp,_,0,_,rfl,rfl,ay.of hdp,bM,rfl,_,rfl,?_⟩
    refine bZ (show decide (V.str "put" = V.str "put")=true by decide +kernel) ?_
    refine⟨_,rfl,dp,_,2,_,rfl,rfl,ay.of hdp,at2,_,rfl,_,rfl,dp,_,1,_,rfl,rfl,ay.of hdp,cW,d,_,rfl,iu.k (k:=Sum.inr x) hd (cM (by omega)),?_⟩
    have hdp1:(upd H d (.dK (putK kvs (Sum.inr x) (.int (n))))) dp=some (.tup (jg (.put x n))):=by rw [ai nd];exact hdp
    refine⟨_,rfl,dp,_,0,_,rfl,rfl,ay.of hdp1,bM,rfl,_,rfl,?_⟩
    refine aU (show decide (V.str "put" = V.str "copy")=false by decide +kernel) ?_
    refine⟨_,rfl,dp,_,0,_,rfl,rfl,ay.of hdp1,bM,rfl,_,rfl,?_⟩
    refine aU (show decide (V.str "put" = V.str "add")=false by decide +kernel) ?_
    refine⟨_,rfl,dp,_,0,_,rfl,rfl,ay.of hdp1,bM,rfl,_,rfl,?_⟩
    refine aU (show decide (V.str "put" = V.str "tell")=false by decide +kernel) ?_
    refine⟨_,rfl,dp,_,0,_,rfl,rfl,ay.of hdp1,bM,rfl,_,rfl,?_⟩
    refine aU (show decide (V.str "put" = V.str "read")=false by decide +kernel) ?_
    refine⟨_,rfl,_,rfl,_,_,rfl,rfl,_,rfl,_,rfl,_,rfl,_,rfl,_,rfl,m9,fun st' hn=>?_⟩
    refine q st' _ (fJ.oQ (kvs:=putK kvs (Sum.inr x) (.int (n))) ae ?_ ?_ ?_ ?_ A.ne ?_ hn ?_) (ff.jN.trans (ff.new hn))
    ·rw [hs];exact dw.put x (n)
    ·have:=dJ kvs (Sum.inr x:Key) (V.int (n));omega
    ·rw [hs,ai ndt.symm];exact A.told
    ·rw [hs,ai ndb.symm];exact A.bX
    ·rw [hs];exact⟨GP A.bK.1,GP A.bK.2⟩
    ·rw [hs];rfl
   case copy x y =>
    refine⟨fun σ' H1=>σ' = [some (.ref p),some (.ref st),some (.ref np),some (.int S.aP),some (.int S.place),some (.ref d),some (.int S.taken),some (.ref tl),some (.str S.word),some (.ref bl),some (.ref da),some (.ref ea),some (.ref dp),some (.int (S.w x)),none,none]/\H=H1,⟨_,rfl,d,rfl,.inl ⟨kvs,.inl hd⟩,_,rfl,dp,_,1,_,rfl,rfl,ay.of hdp,cW,_,_,dU.k (k:=Sum.inr x) hd,dw x,rfl,rfl⟩,?_⟩
    rintro σ' H1 ⟨rfl,rfl⟩
    refine⟨_,rfl,dp,_,0,_,rfl,rfl,ay.of hdp,bM,rfl,_,rfl,?_⟩
    refine aU (show decide (V.str "copy" = V.str "put")=false by decide +kernel) ?_
    refine⟨_,rfl,dp,_,0,_,rfl,rfl,ay.of hdp,bM,rfl,_,rfl,?_⟩
    refine bZ (show decide (V.str "copy" = V.str "copy")=true by decide +kernel) ?_
    refine⟨_,rfl,d,rfl,.inl ⟨kvs,.inl hd⟩,_,rfl,dp,_,2,_,rfl,rfl,ay.of hdp,at2,_,_,dU.k (k:=Sum.inr y) hd,dw y,_,rfl,_,rfl,dp,_,1,_,rfl,rfl,ay.of hdp,cW,d,_,rfl,iu.k (k:=Sum.inr x) hd (cM (by omega)),?_⟩
    have hdp1:(upd H d (.dK (putK kvs (Sum.inr x) (.int (S.w y))))) dp=some (.tup (jg (.copy x y))):=by rw [ai nd];exact hdp
    refine⟨_,rfl,dp,_,0,_,rfl,rfl,ay.of hdp1,bM,rfl,_,rfl,?_⟩
    refine aU (show decide (V.str "copy" = V.str "add")=false by decide +kernel) ?_
    refine⟨_,rfl,dp,_,0,_,rfl,rfl,ay.of hdp1,bM,rfl,_,rfl,?_⟩
    refine aU (show decide (V.str "copy" = V.str "tell")=false by decide +kernel) ?_
    refine⟨_,rfl,dp,_,0,_,rfl,rfl,ay.of hdp1,bM,rfl,_,rfl,?_⟩
    refine aU (show decide (V.str "copy" = V.str "read")=false by decide +kernel) ?_
    refine⟨_,rfl,_,rfl,_,_,rfl,rfl,_,rfl,_,rfl,_,rfl,_,rfl,_,rfl,m9,fun st' hn=>?_⟩
    refine q st' _ (fJ.oQ (kvs:=putK kvs (Sum.inr x) (.int (S.w y))) ae ?_ ?_ ?_ ?_ A.ne ?_ hn ?_) (ff.jN.trans (ff.new hn))
    ·rw [hs];exact dw.put x (S.w y)
    ·have:=dJ kvs (Sum.inr x:Key) (V.int (S.w y));omega
    ·rw [hs,ai ndt.symm];exact A.told
    ·rw [hs,ai ndb.symm];exact A.bX
    ·rw [hs];exact⟨GP A.bK.1,GP A.bK.2⟩
    ·rw [hs];rfl
   case add x n =>
    refine⟨fun σ' H1=>σ' = [some (.ref p),some (.ref st),some (.ref np),some (.int S.aP),some (.int S.place),some (.ref d),some (.int S.taken),some (.ref tl),some (.str S.word),some (.ref bl),some (.ref da),some (.ref ea),some (.ref dp),some (.int (S.w x)),none,none]/\H=H1,⟨_,rfl,d,rfl,.inl ⟨kvs,.inl hd⟩,_,rfl,dp,_,1,_,rfl,rfl,ay.of hdp,cW,_,_,dU.k (k:=Sum.inr x) hd,dw x,rfl,rfl⟩,?_⟩
    rintro σ' H1 ⟨rfl,rfl⟩
    refine⟨_,rfl,dp,_,0,_,rfl,rfl,ay.of hdp,bM,rfl,_,rfl,?_⟩
    refine aU (show decide (V.str "add" = V.str "put")=false by decide +kernel) ?_
    refine⟨_,rfl,dp,_,0,_,rfl,rfl,ay.of hdp,bM,rfl,_,rfl,?_⟩
    refine aU (show decide (V.str "add" = V.str "copy")=false by decide +kernel) ?_
    refine⟨_,rfl,dp,_,0,_,rfl,rfl,ay.of hdp,bM,rfl,_,rfl,?_⟩
    refine bZ (show decide (V.str "add" = V.str "add")=true by decide +kernel) ?_
    refine⟨_,rfl,_,rfl,dp,_,2,_,rfl,rfl,ay.of hdp,at2,_,_,rfl,rfl,_,rfl,_,rfl,dp,_,1,_,rfl,rfl,ay.of hdp,cW,d,_,rfl,iu.k (k:=Sum.inr x) hd (cM (by omega)),?_⟩
    have hdp1:(upd H d (.dK (putK kvs (Sum.inr x) (.int (S.w x+n))))) dp=some (.tup (jg (.add x n))):=by rw [ai nd];exact hdp
    refine⟨_,rfl,dp,_,0,_,rfl,rfl,ay.of hdp1,bM,rfl,_,rfl,?_⟩
    refine aU (show decide (V.str "add" = V.str "tell")=false by decide +kernel) ?_
    refine⟨_,rfl,dp,_,0,_,rfl,rfl,ay.of hdp1,bM,rfl,_,rfl,?_⟩
    refine aU (show decide (V.str "add" = V.str "read")=false by decide +kernel) ?_
    refine⟨_,rfl,_,rfl,_,_,rfl,rfl,_,rfl,_,rfl,_,rfl,_,rfl,_,rfl,m9,fun st' hn=>?_⟩
    refine q st' _ (fJ.oQ (kvs:=putK kvs (Sum.inr x) (.int (S.w x+n))) ae ?_ ?_ ?_ ?_ A.ne ?_ hn ?_) (ff.jN.trans (ff.new hn))
    ·rw [hs];exact dw.put x (S.w x+n)
    ·have:=dJ kvs (Sum.inr x:Key) (V.int (S.w x+n));omega
    ·rw [hs,ai ndt.symm];exact A.told
    ·rw [hs,ai ndb.symm];exact A.bX
    ·rw [hs];exact⟨GP A.bK.1,GP A.bK.2⟩
    ·rw [hs];rfl
   case read x =>
    refine⟨fun σ' H1=>σ' = [some (.ref p),some (.ref st),some (.ref np),some (.int S.aP),some (.int S.place),some (.ref d),some (.int S.taken),some (.ref tl),some (.str S.word),some (.ref bl),some (.ref da),some (.ref ea),some (.ref dp),some (.int (S.w x)),none,none]/\H=H1,⟨_,rfl,d,rfl,.inl ⟨kvs,.inl hd⟩,_,rfl,dp,_,1,_,rfl,rfl,ay.of hdp,cW,_,_,dU.k (k:=Sum.inr x) hd,dw x,rfl,rfl⟩,?_⟩
    rintro σ' H1 ⟨rfl,rfl⟩
    refine⟨_,rfl,dp,_,0,_,rfl,rfl,ay.of hdp,bM,rfl,_,rfl,?_⟩
    refine aU (show decide (V.str "read" = V.str "put")=false by decide +kernel) ?_
    refine⟨_,rfl,dp,_,0,_,rfl,rfl,ay.of hdp,bM,rfl,_,rfl,?_⟩
    refine aU (show decide (V.str "read" = V.str "copy")=false by decide +kernel) ?_
    refine⟨_,rfl,dp,_,0,_,rfl,rfl,ay.of hdp,bM,rfl,_,rfl,?_⟩
    refine aU (show decide (V.str "read" = V.str "add")=false by decide +kernel) ?_
    refine⟨_,rfl,dp,_,0,_,rfl,rfl,ay.of hdp,bM,rfl,_,rfl,?_⟩
    refine aU (show decide (V.str "read" = V.str "tell")=false by decide +kernel) ?_
    refine⟨_,rfl,dp,_,0,_,rfl,rfl,ay.of hdp,bM,rfl,_,rfl,?_⟩
    refine bZ (show decide (V.str "read" = V.str "read")=true by decide +kernel) ?_
    refine⟨_,rfl,_,rfl,np,_,rfl,.inr (ay.of hnp),rfl,_,rfl,?_⟩
    refine cZ (fun ht=>?_) (fun ht=>?_)
    ·have he:S.taken=nums.length:=by
      have:=V.int.inj (of_decide_eq_true ht)
      rw [Gg] at this
      omega
     have hnn:nums[S.taken]?=none:=by rw [he];simp
     have hs':cB ps nums S={ S with word := "dry" }:=by rw [hs];show (match nums[S.taken]? with | none=>_ | some n=>_)=_;rw [hnn]
     refine⟨_,rfl,_,rfl,_,rfl,_,rfl,_,rfl,_,rfl,m9,fun st' hn=>?_⟩
     rw [hs'] at q
     exact q st' _ (fJ.oQ (S':={ S with word := "dry" }) hd dw (GP hk) A.told A.bX A.ne ⟨GP A.bK.1,GP A.bK.2⟩ hn rfl) (ff.new hn)
    ·have hlt2:S.taken<nums.length:=by
      refine Nat.lt_of_le_of_ne htk fun z=>ht (decide_eq_true ?_)
      rw [Gg,z]
     have hnn:nums[S.taken]?=some nums[S.taken]:=by simp [hlt2]
     generalize hne:nums[S.taken]=n at hnn
     have hnv:(nums.map V.int)[S.taken]?=some (V.int n):=by rw [GI,hnn];rfl
     have hs':cB ps nums S={ S with w:=iw S.w x n,taken:=S.taken+1,place:=S.place+1 }:=by rw [hs];show (match nums[S.taken]? with | none=>_ | some n=>_)=_;rw [hnn]
     refine⟨_,rfl,_,rfl,np,_,_,_,rfl,rfl,ay.of hnp,bI hnv,_,rfl,_,rfl,dp,_,1,_,rfl,rfl,ay.of hdp,cW,d,_,rfl,iu.k (k:=Sum.inr x) hd (cM (by omega)),?_⟩
     refine⟨_,rfl,_,_,rfl,rfl,?_⟩
     refine⟨_,rfl,_,rfl,_,_,rfl,rfl,_,rfl,_,rfl,_,rfl,_,rfl,_,rfl,m9,fun st' hn=>?_⟩
     rw [hs'] at q
     refine q st' _ (fJ.oQ (S':={ S with w:=iw S.w x n,taken:=S.taken+1,place:=S.place+1 }) (kvs:=putK kvs (Sum.inr x) (.int n)) ae (dw.put x n) ?_ ?_ ?_ A.ne ⟨GP A.bK.1,GP A.bK.2⟩ hn rfl) (ff.jN.trans (ff.new hn))
     ·have:=dJ kvs (Sum.inr x:Key) (V.int n);omega
     ·rw [ai ndt.symm];exact A.told
     ·rw [ai ndb.symm];exact A.bX
   case tell x =>
    refine⟨fun σ' H1=>σ' = [some (.ref p),some (.ref st),some (.ref np),some (.int S.aP),some (.int S.place),some (.ref d),some (.int S.taken),some (.ref tl),some (.str S.word),some (.ref bl),some (.ref da),some (.ref ea),some (.ref dp),some (.int (S.w x)),none,none]/\H=H1,⟨_,rfl,d,rfl,.inl ⟨kvs,.inl hd⟩,_,rfl,dp,_,1,_,rfl,rfl,ay.of hdp,cW,_,_,dU.k (k:=Sum.inr x) hd,dw x,rfl,rfl⟩,?_⟩
    rintro σ' H1 ⟨rfl,rfl⟩
    refine⟨_,rfl,dp,_,0,_,rfl,rfl,ay.of hdp,bM,rfl,_,rfl,?_⟩
    refine aU (show decide (V.str "tell" = V.str "put")=false by decide +kernel) ?_
    refine⟨_,rfl,dp,_,0,_,rfl,rfl,ay.of hdp,bM,rfl,_,rfl,?_⟩
    refine aU (show decide (V.str "tell" = V.str "copy")=false by decide +kernel) ?_
    refine⟨_,rfl,dp,_,0,_,rfl,rfl,ay.of hdp,bM,rfl,_,rfl,?_⟩
    refine aU (show decide (V.str "tell" = V.str "add")=false by decide +kernel) ?_
    refine⟨_,rfl,dp,_,0,_,rfl,rfl,ay.of hdp,bM,rfl,_,rfl,?_⟩
    refine bZ (show decide (V.str "tell" = V.str "tell")=true by decide +kernel) ?_
    refine⟨_,rfl,.inl ⟨rfl,_,aY.of A.told⟩,_,rfl,tl,_,_,rfl,rfl,A.told,(by rw [Gg];exact cM (by have:=A.bK.1;omega)),?_⟩
    have hdp1:(upd H tl (.lst (S.told.map V.int++[.int (S.w x)]))) dp=some (.tup (jg (.tell x))):=by rw [ai (bB hdp A.told (by intro z;cases z))];exact hdp
    refine⟨_,rfl,dp,_,0,_,rfl,rfl,ay.of hdp1,bM,rfl,_,rfl,?_⟩
    refine aU (show decide (V.str "tell" = V.str "read")=false by decide +kernel) ?_
    refine⟨_,rfl,_,rfl,_,_,rfl,rfl,_,rfl,_,rfl,_,rfl,_,rfl,_,rfl,m9,fun st' hn=>?_⟩
    refine q st' _ (fJ.oQ (kvs:=kvs) ?_ ?_ ?_ ?_ ?_ A.ne ?_ hn ?_) (ff.EK.trans (ff.new hn))
    ·rw [ai ndt];exact hd
    ·rw [hs];exact dw
    ·omega
    ·rw [hs,ae]
     show _=some (HO.lst ((S.told++[S.w x]).map V.int))
     rw [Gz]
     rfl
    ·rw [hs,ai A.ne.symm];exact A.bX
    ·rw [hs]
     refine⟨?_,GP A.bK.2⟩
     show (S.told++[S.w x]).length<=m+1
     rw [Gr]
     exact Ht A.bK.1
    ·rw [hs];rfl
  ·have hnone:ds[S.place]?=none:=by
    rw [IX]
    have:¬((S.place:Int)<(vs.length:Nat)):=fun z=>hc (decide_eq_true z)
    omega
   have hs:=gK (nums:=nums) hx hnone
   have few1:S.bX.length<1000000:=by have:=A.bK.2;omega
   cases e with
   | stop =>
    refine⟨_,rfl,ea,_,0,_,rfl,rfl,ay.of e4,bM,rfl,_,rfl,?_⟩
    refine bZ (show decide (V.str "stop" = V.str "stop")=true by decide +kernel) ⟨_,rfl,_,rfl,_,rfl,_,rfl,_,rfl,_,rfl,m9,fun st' hn=>?_⟩
    rw [hs] at q
    exact q st' _ (fJ.oQ (S':={ S with word := "stop" }) hd dw (GP hk) A.told A.bX A.ne ⟨GP A.bK.1,GP A.bK.2⟩ hn rfl) (ff.new hn)
   | go t =>
    refine⟨_,rfl,ea,_,0,_,rfl,rfl,ay.of e4,bM,rfl,_,rfl,?_⟩
    refine aU (show decide (V.str "go" = V.str "stop")=false by decide +kernel) ⟨_,rfl,ea,_,0,_,rfl,rfl,ay.of e4,bM,rfl,_,rfl,?_⟩
    refine bZ (show decide (V.str "go" = V.str "go")=true by decide +kernel) ⟨_,rfl,ea,_,1,_,rfl,rfl,ay.of e4,cW,?_⟩
    refine⟨_,rfl,.inl ⟨rfl,_,aY.of A.bX⟩,_,rfl,bl,_,_,rfl,rfl,A.bX,(by rw [Gg];exact cM (by have:=A.bK.2;omega)),?_⟩
    refine⟨_,rfl,_,rfl,_,rfl,_,rfl,_,rfl,_,rfl,m9,fun st' hn=>?_⟩
    rw [hs] at q
    refine q st' _ (fJ.oQ (S':=jh S (.go t)) (kvs:=kvs) ?_ dw (GP hk) ?_ ?_ A.ne ?_ hn rfl) (ff.Cd.trans (ff.new hn))
    ·rw [ai ndb];exact hd
    ·rw [ai A.ne];exact A.told
    ·rw [ae]
     show _=some (HO.lst ((S.bX++[t]).map fun k=>V.int (k:Nat)))
     rw [Gz]
     rfl
    ·refine⟨GP A.bK.1,?_⟩
     show (S.bX++[t]).length<=m+1+1
     rw [Gr]
     exact Ht A.bK.2
   | cE b x n t t' =>
    have hw1:decide (V.str (wT b)=V.str "stop")=false:=by cases b <;> decide +kernel
    have hw2:decide (V.str (wT b)=V.str "go")=false:=by cases b <;> decide +kernel
    have hw3:decide (V.str (wT b)=V.str "is") = !b:=by cases b <;> decide +kernel
    refine⟨_,rfl,ea,_,0,_,rfl,rfl,ay.of e4,bM,rfl,_,rfl,?_⟩
    refine aU hw1 ⟨_,rfl,ea,_,0,_,rfl,rfl,ay.of e4,bM,rfl,_,rfl,?_⟩
    refine aU hw2 ?_
    refine⟨fun σ' H1=>σ' = [some (.ref p),some (.ref st),some (.ref np),some (.int S.aP),some (.int S.place),some (.ref d),some (.int S.taken),some (.ref tl),some (.str S.word),some (.ref bl),some (.ref da),some (.ref ea),none,some (.int (S.w x)),none,none]/\H=H1,⟨_,rfl,d,rfl,.inl ⟨kvs,.inl hd⟩,_,rfl,ea,_,1,_,rfl,rfl,ay.of e4,cW,_,_,dU.k (k:=Sum.inr x) hd,dw x,rfl,rfl⟩,?_⟩
    rintro σ' H1 ⟨rfl,rfl⟩
    refine⟨_,rfl,_,rfl,ea,_,2,_,rfl,rfl,ay.of e4,at2,_,_,rfl,rfl,_,rfl,_,rfl,ea,_,2,_,rfl,rfl,ay.of e4,at2,rfl,ln2,fun l0 n0=>?_⟩
    have e5:upd H l0 (.lst [.bl (decide (S.w x<n)),.bl (decide (V.int (S.w x)=V.int n))]) ea=some (.tup (fg (.cE b x n t t'))):=by rw [ai (aw e4 n0)];exact e4
    refine⟨_,rfl,ea,_,0,_,rfl,rfl,ay.of e5,bM,rfl,.inr ⟨_,rfl,?_⟩⟩
    have hyes:fw [V.bl (decide (S.w x<n)),V.bl (decide (V.int (S.w x)=V.int n))] (if decide (V.str (wT b)=V.str "is")=true then 1 else 0)=some (V.bl (fD b (S.w x) n)):=by
     rw [hw3]
     cases b with
     | true=>exact bM
     | false =>
      have ed:decide (V.int (S.w x)=V.int n)=decide (S.w x=n):=by
       by_cases hh:S.w x=n
       ·rw [decide_eq_true hh,decide_eq_true (congrArg V.int hh)]
       ·rw [decide_eq_false hh,decide_eq_false fun z=>hh (V.int.inj z)]
      rw [ed]
      exact cW
    refine⟨l0,_,_,_,rfl,rfl,aY.of ae,hyes,?_⟩
    have hthere:fw (fg (.cE b x n t t')) (4-(if fD b (S.w x) n=true then 1 else 0))=some (V.int ((if fD b (S.w x) n=true then t else t':Nat):Nat)):=by
     cases fD b (S.w x) n with
     | true=>exact bI (j:=3) rfl
     | false=>exact bI (j:=4) rfl
    refine⟨_,rfl,_,rfl,.inr ⟨_,rfl,_,_,rfl,rfl,ea,_,_,_,rfl,rfl,ay.of e5,hthere,?_⟩⟩
    have b6:upd H l0 (.lst [.bl (decide (S.w x<n)),.bl (decide (V.int (S.w x)=V.int n))]) bl=some (.lst (S.bX.map fun k=>V.int (k:Nat))):=by rw [ai (aw A.bX n0)];exact A.bX
    refine⟨_,rfl,.inl ⟨rfl,_,aY.of b6⟩,_,rfl,bl,_,_,rfl,rfl,b6,(by rw [Gg];exact cM (by have:=A.bK.2;omega)),?_⟩
    refine⟨_,rfl,_,rfl,_,rfl,_,rfl,_,rfl,_,rfl,m9,fun st' hn=>?_⟩
    rw [hs] at q
    refine q st' _ (fJ.oQ (S':=jh S (.cE b x n t t')) (kvs:=kvs) ?_ dw (GP hk) ?_ ?_ A.ne ?_ hn rfl) (((ff.new n0).trans ff.Cd).trans (ff.new hn))
    ·rw [ai ndb,ai (aw hd n0)];exact hd
    ·rw [ai A.ne,ai (aw A.told n0)];exact A.told
    ·rw [ae]
     show _=some (HO.lst ((S.bX++[if fD b (S.w x) n=true then t else t']).map fun k=>V.int (k:Nat)))
     rw [Gz]
     rfl
    ·refine⟨GP A.bK.1,?_⟩
     show (S.bX++[_]).length<=m+1+1
     rw [Gr]
     exact Ht A.bK.2
theorem wG {f:Addr} {fd:FuncData} (F:bS K "_law_walk" "_law_walk" ie f fd) (Z:Bl mg) (O_law_step:Own P w K mg base "_law_step" 1 ["plan", "state", "numbers"] sG):bh P w K mg base bQ 2 f fd ["plan", "numbers", "steps"] sH:=by
 refine F.ok (k:=1) jm (fun vs H Q E h=>?_) (fun cdv A outer s H vs Q E hr h=>?_)
 ·obtain⟨np,plv,n,nums,ps,rfl,_⟩:=h
  rfl
 ·obtain⟨np,plv,n,nums,ps,rfl,hp,hin,hpc,hnp,hn,q⟩:=h
  refine⟨_,(ah (cG (aT (i:=3) jm.nd rfl (Gf rfl) (bx (ja ao ao uX ao (cP af) bc (cP (aa ao af))))))
   (ah (fY PassesOwn.never rfl (fo rfl Z.range (aa (pv 2) af)) (aG (i:=4) jm.nd rfl (Gf rfl))
   (av (bw (aI bP (aF aK (pv 3) ao (fun _ _=>rfl)) bc (aQ _))
   (av (aT (i:=3) jm.nd rfl (Gf rfl) (aB O_law_step (hr.mono (by decide)) rfl (aa (pv 0) (aa (pv 3) (aa (pv 1) af))))))
   bf)))
   (av (aC (pv 3))))),?_⟩
  refine⟨fun σ' H'=>∃d tl bl st:Addr,σ' = [some plv,some (.ref np),some (.int n),some (.ref st),none]/\fJ H' st d tl bl (bD 0 fun _=>0) 0/\ar H H'/\H d=none/\H tl=none/\H bl=none,
   fun d hd=>⟨(by show 0<=sizeLine;decide),fun tl htl=>⟨wY,fun bl hbl=>⟨m9,fun st hst=>⟨d,tl,bl,st,rfl,?_,?_,hd,?_,?_⟩⟩⟩⟩,?_⟩
  ·refine fJ.oQ (H1:=upd (upd (upd H d (.dK [])) tl (.lst [])) bl (.lst [.int 0])) (S':=bD 0 fun _=>0) (kvs:=[]) ?_ (fun x=>rfl) (Gi _) ?_ (by rw [ae];rfl) ?_ ⟨Gi _,Gi _⟩ hst rfl
   ·exact ar.new hbl _ _ (ar.new htl _ _ ae)
   ·exact ar.new hbl _ _ ae
   ·exact aw ae hbl
  ·exact (((ar.new hd).trans (ar.new htl)).trans (ar.new hbl)).trans (ar.new hst)
  ·exact (ar.new hd).free htl
  ·exact ((ar.new hd).trans (ar.new htl)).free hbl
  rintro σ' H0 ⟨d,tl,bl,st,rfl,A0,s0,hd,ntl,nbl⟩
  refine⟨_,rfl,_,rfl,(by omega),(by omega),jq (lo:=0) (fun i Gd H'=>∃(c:Option V) (st':Addr),Gd=[some plv,some (.ref np),some (.int n),some (.ref st'),c]/\fJ H' st' d tl bl (aM ps nums i (bD 0 fun _=>0)) i/\ar H H') ?_ ?_ ?_⟩
  ·exact⟨none,st,rfl,A0,s0⟩
  ·rintro i Gd H1 hi ⟨c,st',rfl,A1,s1⟩
   have hi':i<n:=by omega
   have wi:=xh (ps:=ps) (nums:=nums) (S:=bD 0 fun _=>0) hin hpc (GK _) i
   have won:=rW (ps:=ps) (nums:=nums) (n:=i) (S:=bD 0 fun _=>0)
   have woff:¬(aM ps nums i (bD 0 fun _=>0)).word = "on" -> aM ps nums (i+1) (bD 0 fun _=>0)=aM ps nums i (bD 0 fun _=>0):=fun h=>i6 h 1
   generalize aM ps nums (i+1) (bD 0 fun _=>0)=W1 at won woff ⊢
   generalize aM ps nums i (bD 0 fun _=>0)=W at A1 wi won woff ⊢
   refine⟨_,rfl,st',_,5,_,rfl,rfl,ay.of A1.at_,E2,rfl,_,rfl,?_⟩
   by_cases hw:W.word = "on"
   ·refine bZ (by rw [hw];decide +kernel) ?_
    refine⟨_,rfl,_,rfl,_,rfl,plv,st',np,d,tl,bl,ps,nums,W,i,rfl,hp.same s1 (cK ps),hin,s1 _ _ hnp,A1,wi.1,wi.2,(by omega),fun st2 H2 A2 b2=>?_⟩
    exact⟨_,st2,rfl,by rw [won hw];exact A2,fun c o e=>b2 c o (s1 c o e) (aw e hd) (aw e ntl) (aw e nbl)⟩
   ·refine aU (decide_eq_false fun z=>hw (V.str.inj z)) ?_
    exact⟨_,st',rfl,by rw [woff hw];exact A1.mono (Hh i),s1⟩
  ·rintro Gd H1 ⟨c,st',rfl,A1,s1⟩
   have e1:((n:Int)).toNat=n:=by omega
   rw [e1] at A1
   exact⟨_,rfl,q st' d tl bl H1 A1 s1⟩
theorem vX {f:Addr} {fd:FuncData} (F:bS K "_law_input" "_law_input" gx f fd) (Z:Bl mg) (O_law_take:Own P w K mg base "_law_take" 1 ["bag", "many"] gI) (O_law_number:Own P w K mg base "_law_number" 2 ["bag"] ko):bh P w K mg base bQ 3 f fd ["bag"] pF:=by
  refine F.ok (k:=2) oa (fun vs H Q E h=>?_) (fun cdv A outer s H vs Q E hr h=>?_)
  . obtain⟨b,rfl,_⟩:=h
    rfl
  . obtain⟨b,rfl,hB,q⟩:=h
    refine⟨_,(ah (aT (i:=1) oa.nd rfl (Gf rfl) (aB O_law_take (hr.mono (by decide)) rfl (aa (pv 0) (aa (aF cy (cP (aa ao (aa ao (aa ao af)))) (aB O_law_take (hr.mono (by decide)) rfl (aa (pv 0) (aa ao af))) (fun _ _=>rfl)) af))))
      (av (aC (bA bu rfl Z.tuple cb (aa (fR ["k"] ["bag"] [0] rfl (fo rfl Z.range (aa (pv 1) af)) rfl (by decide +kernel) (by decide +kernel) (by decide +kernel) ⟨⟨rfl,.inl rfl,rfl⟩,True.intro⟩ (fun _ _ _ _=>(aG (i:=0) (show ((["k"]:List Str)++(["bag"]:List Str)).Nodup by decide +kernel) rfl (Gf rfl) (hf:=GO rfl))) (fun _ _ _ _=>gf) (fun _ _ _ _=>(aB O_law_number (hr.mono (by decide)) rfl (aa (pv 1) af)))) af))))),?_⟩
    refine⟨_,rfl,uP,fun l0 n0=>?_⟩
    refine⟨_,rfl,b,3,rfl,hB.new n0,⟨by decide,by decide⟩,fun z H1 z0 z1 B1 X1=>?_⟩
    have h0:H1 l0=some (.lst [.int 9,.int 60,.int 201]):=X1 l0 _ ae (hB.eV n0)
    obtain⟨g,hg,hg3⟩:=D3 (x:=9) (y:=60) (z:=201) z0 z1
    have g0:0<g/\g<1000:=by omega
    refine⟨l0,_,_,_,rfl,rfl,aY.of h0,hg,b,g,rfl,B1,⟨g0.1,il g0.1 (by omega)⟩,fun m H2 m0 m1 B2 X2=>?_⟩
    have F2:Fix b H H2:=((Fix.new n0).trans X1).trans X2
    refine⟨_,rfl,_,rfl,(by omega),(by omega),fun acc na=>?_⟩
    have hab:acc≠b:=B2.eV na
    refine me (lo:=0) (fun i ys Ge H'=>∃(v:Option V) (ns:List Int),Ge=[v,some (.ref b)]/\ys=ns.map V.int/\ns.length=i/\H' acc=some (.lst ys)/\cQ H' b/\Fix b H2 H') ?_ ?_ ?_ ?_
    . exact⟨none,[],rfl,rfl,rfl,ae,B2.new na,Fix.new na⟩
    . rintro i ys Ge H4 hi ⟨v,ns,rfl,rfl,hl,ha,_⟩
      exact⟨ha,by rw [Gg];exact bF (by omega)⟩
    . rintro i ys Ge H4 hi ⟨v,ns,rfl,rfl,hl,ha,B4,X4⟩
      refine dB ?_
      refine lh ?_
      refine cD ?_
      refine⟨_,rfl,b,rfl,B4,fun n H5 nk B5 X5=>?_⟩
      have ha5:=X5 acc _ ha hab
      refine⟨ha5,_,ns++[n],rfl,(by rw [Gz];rfl),(by rw [Gr,hl];rfl),ae,?_,?_⟩
      . obtain⟨x,y,e,z⟩:=B5
        exact⟨x,y,by rw [ai hab.symm];exact e,z⟩
      . intro d' o hd nd
        rw [ai (aw hd na)]
        exact (X4.trans X5) d' o hd nd
    . rintro ys Ge H4 ⟨v,ns,rfl,rfl,hl,ha,B4,X4⟩
      refine⟨acc,_,rfl,.inl ⟨aY.of ha,fun t tn=>?_⟩⟩
      exact q t ns _ ae (B4.new tn) ((F2.trans X4).trans (Fix.new tn))
theorem p7 {f:Addr} {fd:FuncData} (F:bS K "_law_idle_plan" "_law_idle_plan" er f fd) (Z:Bl mg) (O_law_plan:Own P w K mg base "_law_plan" 4 ["bag", "count", "most"] uU) (O_law_take:Own P w K mg base "_law_take" 1 ["bag", "many"] gI):bh P w K mg base bQ 8 f fd ["bag", "count"] mD:=by
  refine F.ok (k:=7) de (fun vs H Q E h=>?_) (fun cdv A outer s H vs Q E hr h=>?_)
  . obtain⟨b,c,rfl,_⟩:=h
    rfl
  . obtain⟨b,c,rfl,hB,c0,cn,q⟩:=h
    refine⟨_,(ah (aT (i:=2) de.nd rfl (Gf rfl) (aB O_law_plan (hr.mono (by decide)) rfl (aa (pv 0) (aa (pv 1) (aa ao af)))))
      (ah (aT (i:=3) de.nd rfl (Gf rfl) (cP af))
      (ah (fY PassesOwn.never rfl (fX (pv 2)) (cU rfl (aR (aG (i:=4) de.nd rfl (Gf rfl)) (aR (aG (i:=5) de.nd rfl (Gf rfl)) cI)))
      (ah (cG (bw (aI bP (aB O_law_take (hr.mono (by decide)) rfl (aa (pv 0) (aa ao af))) ao (aQ _))
      (ah (aT (i:=4) de.nd rfl (Gf rfl) (bx af))
      (av (aT (i:=5) de.nd rfl (Gf rfl) (bx (aa bc (aa (aB O_law_take (hr.mono (by decide)) rfl (aa (pv 0) (aa (pv 1) af))) af))))))
      bf))
      (av (cx (fb PySem.F.plainAttrs_list PySem.F.slot_list_append PySem.F.type_list_append cR (pv 3) (aa (bx (aa (pv 4) (aa (pv 5) af))) af))))))
      (av (aC (bA bu rfl Z.tuple cb (aa (pv 3) af))))))),?_⟩
    have ck:(0:Int)<(c:Int)/\(c:Int).natAbs.log2<9000:=⟨by omega,il (by omega) (by omega)⟩
    refine⟨_,rfl,_,rfl,b,c,2,rfl,hB,c0,cn,(by decide),fun plv xs ps H1 r1 hc pok xok B1 X1=>?_⟩
    obtain⟨pp,vs,rfl,e1,rvs⟩:=aX.bN r1
    have hvl:=rvs.len
    rw [Gg] at hvl
    refine⟨(by show 0<=sizeLine;decide),fun sl nsl=>?_⟩
    have hsb:sl≠b:=B1.eV nsl
    have e1':=ar.new (o:=.lst []) nsl _ _ e1
    refine⟨_,rfl,pp,rfl,⟨_,ay.of e1'⟩,iX (K:=K) (a:=pp) (xs:=vs) (fun i Gd H'=>∃(u1 u2:Option V) (qs:List Piece) (zs:List V),Gd=[some (.ref b),some (.int c),some (.ref pp),some (.ref sl),u1,u2]/\H' sl=some (.lst zs)/\br H' zs (qs.map df)/\qs.length=i/\(∀p∈qs,(p.1.length<=2/\∀d∈p.1,eW xs d)/\iO xs c p.2)/\cQ H' b/\Fix b H1 H') ?_ ?_ ?_ ?_⟩
    . exact⟨_,_,[],[],rfl,ae,.nil,rfl,(fun _ h=>nomatch h),B1.new nsl,Fix.new nsl⟩
    . rintro i Gd H2 hi ⟨u1,u2,qs,zs,rfl,h2,rq,hql,aZ,B2,X2⟩
      exact ay.of (X2 _ _ e1 (B1.lK e1))
    . rintro i x Gd H2 hi ⟨u1,u2,qs,zs,rfl,h2,rq,hql,aZ,B2,X2⟩
      have hlt:i<ps.length:=by
        have:=(GQ.mp hi).1
        omega
      have hpi:ps[i]?=some ps[i]:=by simp [hlt]
      generalize ps[i]=pe at hpi
      obtain⟨ds,e⟩:=pe
      obtain⟨p',xs',pc,da,ea,ws,ep,e1'',el',hx',e2,e3,r3,e4⟩:=eX r1 hpi
      cases ep
      rw [e1] at e1''
      cases e1''
      rw [hi] at hx'
      cases hx'
      have kt:∀p zs,H1 p=some (.tup zs)->H2 p=some (.tup zs):=fun p zs h=>X2 p _ h (B1.lK h)
      have dok:=pok.iP _ (GJ hpi)
      have eok:=pok.ends _ (GJ hpi)
      rw [hc] at eok
      refine⟨pc,_,rfl,ay.of (kt _ _ e2),rfl,_,_,rfl,_,_,rfl,rfl,?_⟩
      refine⟨fun σ' H'=>∃(da ea:Addr) (ws:List V) (ds:List cH) (e:L2.End),σ' = [some (.ref b),some (.int c),some (.ref pp),some (.ref sl),some (.ref da),some (.ref ea)]/\H' da=some (.tup ws)/\br H' ws (ds.map dI)/\H' ea=some (.tup (fg e))/\(ds.length<=2/\∀d∈ds,eW xs d)/\iO xs c e/\H' sl=some (.lst zs)/\br H' zs (qs.map df)/\cQ H' b/\Fix b H1 H',?_,?_⟩
      . refine⟨_,rfl,b,2,rfl,B2,⟨by decide,by decide⟩,fun r H3 r0 r1' B3 X3=>⟨rfl,_,rfl,?_⟩⟩
        have h3:=X3 _ _ h2 hsb
        have rq3:=rq.fix B2 X3 (bg qs)
        refine cZ (fun hcc=>?_) (fun hcc=>?_)
        . refine⟨(by show 0<=sizeLine;decide),fun t nt=>?_⟩
          refine⟨_,rfl,_,rfl,b,_,rfl,B3.new nt,ck,fun p H4 p0 p1 B4 X4=>⟨ln2,fun t2 nt2=>?_⟩⟩
          obtain⟨k,rfl⟩:∃k:Nat,p=k:=⟨p.toNat,by omega⟩
          have X34:Fix b H3 (upd H4 t2 (.tup [.str "go",.int (k:Nat)])):=((Fix.new nt).trans X4).trans (Fix.new nt2)
          have ht4:H4 t=some (.tup []):=X4 t _ ae (B3.eV nt)
          refine⟨t,t2,[],[],.go k,rfl,ar.new nt2 _ _ ht4,.nil,ae,⟨by simp,fun d hd=>nomatch hd⟩,(show k<c by omega),X34 _ _ h3 hsb,rq3.fix B3 X34 (bg qs),B4.new nt2,(X2.trans X3).trans X34⟩
        . have kt3:∀p zs,H1 p=some (.tup zs)->H3 p=some (.tup zs):=fun p zs h=>(X2.trans X3) p _ h (B1.lK h)
          exact⟨da,ea,ws,ds,e,rfl,kt3 _ _ e3,r3.bp kt3 (cw ds),kt3 _ _ e4,dok,eok,h3,rq3,B3,X2.trans X3⟩
      rintro σ' H3 ⟨da,ea,ws,ds,e,rfl,a3,r3,a4,dok,eok,h3,rq3,B3,X3⟩
      refine⟨_,rfl,.inl ⟨rfl,_,aY.of h3⟩,_,rfl,_,rfl,ln2,fun t4 nt4=>?_⟩
      have s4:=ar.new (o:=.tup [.ref da,.ref ea]) nt4
      have h44:(upd H3 t4 (.tup [.ref da,.ref ea])) t4=some (.tup [.ref da,.ref ea]):=ae
      generalize (upd H3 t4 (.tup [.ref da,.ref ea]))=H4 at s4 h44
      have h34:=s4 _ _ h3
      have hzl:zs.length=qs.length:=by have:=rq3.len;rw [Gg] at this;exact this
      refine⟨sl,_,_,rfl,rfl,h34,bF (by omega),?_⟩
      have kt4:∀p xs,H4 p=some (.tup xs)->(upd H4 sl (.lst (zs++[.ref t4]))) p=some (.tup xs):=fun p xs h=>by rw [ai (bB h h34 (by intro z;cases z))];exact h
      refine⟨_,_,qs++[(ds,e)],_,rfl,ae,?_,(by rw [Gr,hql];rfl),fun p hp=>?_,(B3.same s4).put hsb.symm,fun c' o h nb=>?_⟩
      . rw [Gz]
        have rd4:aX H4 (.ref t4) (df (ds,e)):=.tup h44 (.cons (.tup (s4 _ _ a3) (r3.same s4 (cw ds))) (.cons (vA (s4 _ _ a4)) .nil))
        exact br.app ((rq3.same s4 (bg qs)).bp kt4 (bg qs)) (rd4.bp kt4 (gJ _))
      . rcases GW.mp hp with h | h
        . exact aZ p h
        . rw [Gp.mp h];exact⟨dok,eok⟩
      . rw [ai (aw h nsl)]
        exact s4 c' o (X3 c' o h nb)
    . rintro Gd H2 ⟨u1,u2,qs,zs,rfl,h2,rq,hql,aZ,B2,X2⟩
      refine⟨_,rfl,sl,_,rfl,.inl ⟨aY.of h2,fun t nt=>?_⟩⟩
      have s3:=ar.new (o:=.tup zs) nt
      have hqc:qs.length=c:=by omega
      refine q (.ref t) xs qs _ (.tup ae (rq.same s3 (bg qs))) hqc ⟨fun p hp=>(aZ p hp).1,fun p hp=>by rw [hqc];exact (aZ p hp).2⟩ xok (B2.same s3) ((X1.trans X2).trans (Fix.of_same s3))
theorem wH {f:Addr} {fd:FuncData} (F:bS K "_law_told" "_law_told" ig f fd) (Z:Bl mg) (O_law_walk:Own P w K mg base "_law_walk" 2 ["plan", "numbers", "steps"] sH):bh P w K mg base bQ 3 f fd ["plan", "numbers", "steps"] sI:=by
  refine F.ok (k:=2) o6 (fun vs H Q E h=>?_) (fun cdv A outer s H vs Q E hr h=>?_)
  . obtain⟨np,plv,n,nums,ps,rfl,_⟩:=h
    rfl
  . obtain⟨np,plv,n,nums,ps,rfl,hp,hin,hpc,hnp,hn,q⟩:=h
    refine⟨_,(ah (aT (i:=3) o6.nd rfl (Gf rfl) (aB O_law_walk (hr.mono (by decide)) rfl (aa (pv 0) (aa (pv 1) (aa (pv 2) af)))))
      (av (aC (bx (aa (aF aK (pv 3) ao (fun _ _=>rfl)) (aa (bA bu rfl Z.tuple cb (aa (aF aK (pv 3) ao (fun _ _=>rfl)) af)) af)))))),?_⟩
    refine⟨_,rfl,_,rfl,_,rfl,np,plv,n,nums,ps,rfl,hp,hin,hpc,hnp,hn,fun st d tl bl H1 A1 s1=>?_⟩
    generalize aM ps nums n (bD 0 fun _=>0)=W at A1 q
    refine⟨_,rfl,st,_,5,_,rfl,rfl,ay.of A1.at_,E2,_,rfl,st,_,4,_,rfl,rfl,ay.of A1.at_,FY,tl,_,rfl,.inl ⟨aY.of A1.told,fun t1 n1=>⟨ln2,fun t2 n2=>?_⟩⟩⟩
    have q1:=ar.new (o:=.tup (W.told.map V.int)) n1
    have q2:=ar.new (o:=.tup [.str W.word,.ref t1]) n2
    exact q (.ref t2) _ (.tup ae (.cons (.str _) (.cons (.tup (q2 _ _ ae) (eI _)) .nil))) ((s1.trans q1).trans q2)
theorem vY {f:Addr} {fd:FuncData} (F:bS K "_law_right" "_law_right" gy f fd) (Z:Bl mg) (O_law_told:Own P w K mg base "_law_told" 3 ["plan", "numbers", "steps"] sI) (O_run:Own P w K mg base "run" 9 ["plan", "numbers", "steps"] yj):bh P w K mg base bQ 10 f fd ["plan", "less", "numbers", "steps"] pS:=by
  refine F.ok (k:=9) gR (fun vs H Q E h=>?_) (fun cdv A outer s H vs Q E hr h=>?_)
  . obtain⟨np,pp,lv,n,nums,ps,pvs,rfl,_⟩:=h
    rfl
  . obtain⟨np,pp,lv,n,nums,ps,pvs,rfl,hpp,rpv,hlv,hin,hinL,h0,hL0,h60,hnp,hn,q⟩:=h
    refine⟨_,(ah (cV (aB O_law_told (hr.mono (by decide)) rfl (aa (pv 0) (aa (pv 2) (aa (pv 3) af)))) (cU rfl (aR (aG (i:=4) gR.nd rfl (Gf rfl)) (aR (aG (i:=5) gR.nd rfl (Gf rfl)) cI))))
      (ah (aT (i:=6) gR.nd rfl (Gf rfl) (aB O_run (hr.mono (by decide)) rfl (aa (pv 1) (aa (pv 2) (aa (pv 3) af)))))
      (ah (bw (aI (qr hr.units) (pv 6) (aB O_law_told (hr.mono (by decide)) rfl (aa (pv 1) (aa (pv 2) (aa (pv 3) af)))) (aQ _))
      (av (aC iK))
      bf)
      (ah (cG (bw (PW.pt (kc (aI EA (pv 4) bc (aQ _)) (jW (aI (qr hr.units) (pv 6) (bx (aa (pv 4) (aa (pv 5) af))) (aQ _)))))
      (av (aC iK))
      bf))
      (ah (cG (bw (aI (qr hr.units) (km om (aF aK (pv 6) ao (fun _ _=>rfl)) lH (lI (bb aV rfl Z.len bT (aa (pv 5) af)))) (pv 5) (aQ _))
      (av (aC iK))
      bf))
      (ah (aT (i:=7) gR.nd rfl (Gf rfl) (aF aK (aB O_law_told (hr.mono (by decide)) rfl (aa (pv 0) (aa (pv 2) (aa (bC kh (pv 3) (bC dm (bb aV rfl Z.len bT (aa (pv 0) af)) ao)) af)))) ao (fun _ _=>rfl)))
      (av (aC (fH (zp hr.units) (km om (pv 7) lH (lI (bb aV rfl Z.len bT (aa (aF aK (pv 6) ao (fun _ _=>rfl)) af)))) (aF aK (pv 6) ao (fun _ _=>rfl)) (aQ _)))))))))),?_⟩
    have hp:aX H (.ref pp) (cN ps):=.tup hpp rpv
    have hpl:pvs.length=ps.length:=by have:=rpv.len;rw [Gg] at this;exact this
    obtain⟨t1,⟨m1,t2⟩,⟨m2,t3⟩⟩:=wm hin h0 nums n
    have layW:PySem.PyData.canLay0 (.str (aM ps nums n (bD 0 fun _=>0)).word)=true:=vc rfl n
    have layL:PySem.PyData.canLay0 (.str (aM (bG ps).2 nums n (bD 0 fun _=>0)).word)=true:=vc rfl n
    refine⟨_,rfl,_,rfl,_,rfl,np,.ref pp,n,nums,ps,rfl,hp,hin,h0,hnp,(by omega),fun v1 H1 r1 s1=>?_⟩
    generalize hW:aM ps nums n (bD 0 fun _=>0)=W at t1 t2 layW r1
    generalize hL:aM (bG ps).2 nums n (bD 0 fun _=>0)=L at t1 t2 t3 layL
    obtain⟨u,uvs,rfl,hu,ru⟩:=aX.bN (show aX H1 v1 (.tuple [.str W.word,.tuple (W.told.map PyData.int)]) from r1)
    obtain⟨u1,ut1,rfl,uq1,ru⟩:=ru.cons_inv
    obtain⟨u2,ut2,rfl,uq2,ru⟩:=ru.cons_inv
    have z:=ru.nil_inv
    subst z
    rw [uq1.str_inv] at hu
    obtain⟨ua,uas,rfl,hua,rua⟩:=aX.bN uq2
    have eu:=rua.ints
    subst eu
    refine⟨u,_,rfl,ay.of hu,rfl,_,_,rfl,_,_,rfl,rfl,?_⟩
    have lrL:(ik L).canLay0=true:=xk L layL
    have lrW:(ik W).canLay0=true:=xk W layW
    have dL:=xj L
    have dW:=xj W
    have hlv1:=hlv.same s1 (cK _)
    refine⟨_,rfl,_,rfl,_,rfl,np,lv,n,nums,(bG ps).2,rfl,hlv1,hinL,hL0,s1 _ _ hnp,hn,fun v2 H2 r2 s2=>?_⟩
    rw [hL] at r2
    have s12:=s1.trans s2
    refine⟨_,rfl,_,rfl,_,rfl,_,rfl,np,lv,n,nums,(bG ps).2,rfl,hlv.same s12 (cK _),hinL,hL0,s12 _ _ hnp,(by omega),fun v3 H3 r3 s3=>?_⟩
    rw [hL] at r3
    have r23:=r2.same s3 (sE L)
    refine⟨ik L,ik L,r23,r3,lrL,lrL,(by omega),_,rfl,?_⟩
    refine aU (by rw [PySem.SeqAt.eqv_refl _ lrL];rfl) ?_
    have s23:=s2.trans s3
    have hua3:=s23 _ _ hua
    have s13:=s12.trans s3
    refine⟨fun σ' H'=>∃u5:Option V,σ' = [some (.ref pp),some lv,some (.ref np),some (.int n),some (.str W.word),some (.ref ua),some v2,u5]/\ar H3 H',?_,?_⟩
    . refine⟨_,rfl,rfl,_,rfl,?_⟩
      by_cases hw:W.word = "on"
      . refine aU (by rw [hw];decide +kernel) (cq ?_)
        exact⟨_,rfl,ar.refl _⟩
      . refine bZ (by rw [decide_eq_false (fun z=>hw (V.str.inj z))];rfl) ?_
        obtain⟨w1,w2⟩:=t1 hw
        have eR:ik L=ik W:=by unfold ik;rw [w1,w2]
        refine⟨_,rfl,_,rfl,_,rfl,ln2,fun t nt=>?_⟩
        have qn:=ar.new (o:=.tup [.str W.word,.ref ua]) nt
        refine⟨ik W,ik W,(eR ▸ r23).same qn (sE W),.tup ae (.cons (.str _) (.cons (.tup (qn _ _ hua3) (eI _)) .nil)),lrW,lrW,(by omega),_,rfl,?_⟩
        refine aU (by rw [PySem.SeqAt.eqv_refl _ lrW];rfl) ?_
        exact⟨_,rfl,qn⟩
    rintro σ' H4 ⟨u5,rfl,s4⟩
    have r24:=r23.same s4 (sE L)
    obtain⟨f,fvs,rfl,hf,rf⟩:=aX.bN (show aX H4 v2 (.tuple [.str L.word,.tuple (L.told.map PyData.int)]) from r24)
    obtain⟨f1,ft1,rfl,fq1,rf⟩:=rf.cons_inv
    obtain⟨f2,ft2,rfl,fq2,rf⟩:=rf.cons_inv
    have z:=rf.nil_inv
    subst z
    rw [fq1.str_inv] at hf
    obtain⟨fa,fas,rfl,hfa,rfa⟩:=aX.bN fq2
    have ef:=rfa.ints
    subst ef
    have hua4:=s4 _ _ hua3
    have layT:∀ns:List Int,(PyData.tuple (ns.map PyData.int)).canLay0=true:=fun ns=>fM _ fun d hd=>by obtain⟨x,_,rfl⟩:=GH.mp hd;rfl
    have depT:∀ns:List Int,(PyData.tuple (ns.map PyData.int)).depth<=60:=Ba
    have etake:L.told.take (W.told.map V.int).length=W.told:=by rw [Gg,t2,List.take_left]
    have wul:(W.told.map V.int).length=W.told.length:=Gg ..
    have ec:fC (L.told.map V.int) none (some (((W.told.map V.int).length:Nat):Int))=W.told.map V.int:=by rw [t9,etake]
    have hfa4:=hfa
    refine⟨fun σ' H'=>σ' = [some (.ref pp),some lv,some (.ref np),some (.int n),some (.str W.word),some (.ref ua),some (.ref f),u5]/\ar H4 H',?_,?_⟩
    . refine⟨_,rfl,f,_,1,_,rfl,rfl,ay.of hf,cW,_,rfl,ua,_,rfl,.inr (ay.of hua4),_,rfl,fa,_,rfl,ay.of hfa4,fun hw=>?_,fun _ p hp=>?_⟩
      . unfold fC at ec
        rw [hw.1,hw.2] at ec
        have ec2:L.told.map V.int=W.told.map V.int:=by rw [List.drop_zero,Nat.sub_zero,G7] at ec;exact ec
        rw [ec2] at hfa4
        refine⟨_,rfl,.tuple (W.told.map PyData.int),.tuple (W.told.map PyData.int),.tup hfa4 (eI _),.tup hua4 (eI _),layT _,layT _,(by have:=depT W.told;omega),_,rfl,?_⟩
        refine aU (by rw [PySem.SeqAt.eqv_refl _ (layT _)];rfl) ?_
        exact⟨rfl,ar.refl _⟩
      . rw [ec]
        have qn:=ar.new (o:=.tup (W.told.map V.int)) hp
        refine⟨_,rfl,.tuple (W.told.map PyData.int),.tuple (W.told.map PyData.int),.tup ae (eI _),.tup (qn _ _ hua4) (eI _),layT _,layT _,(by have:=depT W.told;omega),_,rfl,?_⟩
        refine aU (by rw [PySem.SeqAt.eqv_refl _ (layT _)];rfl) ?_
        exact⟨rfl,qn⟩
    rintro σ' H5 ⟨rfl,s5⟩
    have s15:=(s13.trans s4).trans s5
    have hmul:(n:Int)*((pvs.length:Int)+1)=((n*(ps.length+1):Nat):Int):=by rw [hpl,Int.natCast_mul,Int.natCast_add];rfl
    have hbig:n*(ps.length+1)<=2000*61:=Nat.mul_le_mul hn (by omega)
    refine⟨_,rfl,_,rfl,_,rfl,_,rfl,pp,_,rfl,.inr (ay.of (s15 _ _ hpp)),_,_,rfl,rfl,_,_,rfl,rfl,.inr ⟨by omega,by omega⟩,np,.ref pp,n*(ps.length+1),nums,ps,congrArg (fun z=>[V.ref pp,V.ref np,V.int z]) hmul,hp.same s15 (cK ps),hin,h0,s15 _ _ hnp,(by omega),fun v4 H6 r4 s6=>?_⟩
    generalize aM ps nums (n*(ps.length+1)) (bD 0 fun _=>0)=X at t3 r4
    obtain⟨g,gvs,rfl,hg,rg⟩:=aX.bN (show aX H6 v4 (.tuple [.str X.word,.tuple (X.told.map PyData.int)]) from r4)
    obtain⟨g1,gt1,rfl,gq1,rg⟩:=rg.cons_inv
    obtain⟨g2,gt2,rfl,gq2,rg⟩:=rg.cons_inv
    have z:=rg.nil_inv
    subst z
    rw [gq1.str_inv] at hg
    obtain⟨ga,gas,rfl,hga,rga⟩:=aX.bN gq2
    have eg:=rga.ints
    subst eg
    refine⟨g,_,1,_,rfl,rfl,ay.of hg,cW,?_⟩
    have hf6:=s6 _ _ (s5 _ _ hf)
    have hfa6:=s6 _ _ (s5 _ _ hfa)
    have etake2:X.told.take (L.told.map V.int).length=L.told:=by rw [Gg,t3,List.take_left]
    have ec2:fC (X.told.map V.int) none (some (((L.told.map V.int).length:Nat):Int))=L.told.map V.int:=by rw [t9,etake2]
    refine⟨_,rfl,_,rfl,f,_,1,_,rfl,rfl,ay.of hf6,cW,fa,_,rfl,.inr (ay.of hfa6),_,rfl,ga,_,rfl,ay.of hga,fun hw=>?_,fun _ p hp=>?_⟩
    . unfold fC at ec2
      rw [hw.1,hw.2] at ec2
      have ec3:X.told.map V.int=L.told.map V.int:=by rw [List.drop_zero,Nat.sub_zero,G7] at ec2;exact ec2
      rw [ec3] at hga
      refine⟨_,rfl,f,_,1,_,rfl,rfl,ay.of hf6,cW,.tuple (L.told.map PyData.int),.tuple (L.told.map PyData.int),.tup hga (eI _),.tup hfa6 (eI _),layT _,layT _,(by have:=depT L.told;omega),?_⟩
      rw [PySem.SeqAt.eqv_refl _ (layT _)]
      exact q _ (s15.trans s6)
    . rw [ec2]
      have qn:=ar.new (o:=.tup (L.told.map V.int)) hp
      refine⟨_,rfl,f,_,1,_,rfl,rfl,ay.of (qn _ _ hf6),cW,.tuple (L.told.map PyData.int),.tuple (L.told.map PyData.int),.tup ae (eI _),.tup (qn _ _ hfa6) (eI _),layT _,layT _,(by have:=depT L.told;omega),?_⟩
      rw [PySem.SeqAt.eqv_refl _ (layT _)]
      exact q _ ((s15.trans s6).trans qn)
theorem Eo {f:Addr} {fd:FuncData} (F:bS K "law" "law" jV f fd) (Z:Bl mg) {CR:Addr} (TR:sg K CR) (O_law_bag:Own P w K mg base "_law_bag" 1 ["script", "k"] (xZ K)) (O_law_take:Own P w K mg base "_law_take" 1 ["bag", "many"] gI) (O_law_count:Own P w K mg base "_law_count" 2 ["bag", "most"] rK) (O_law_idle_plan:Own P w K mg base "_law_idle_plan" 8 ["bag", "count"] mD) (O_led_past:Own P w K mg base "led_past" 7 ["plan", "most"] (nX P w CR)) (O_short:Own P w K mg base "short" 6 ["plan"] sj) (O_law_input:Own P w K mg base "_law_input" 3 ["bag"] pF) (O_law_right:Own P w K mg base "_law_right" 10 ["plan", "less", "numbers", "steps"] pS):bh P w K mg base bQ 11 f fd ["script"] (uu K):=by
  refine F.ok (k:=10) gS (fun vs H Q E h=>?_) (fun cdv A outer s H vs Q E hr h=>?_)
  . obtain⟨a,ns,rfl,_⟩:=h
    rfl
  . obtain⟨a,ns,rfl,hS,hlen,q⟩:=h
    refine⟨_,(ah (aT (i:=1) gS.nd rfl (Gf rfl) (aB O_law_bag (hr.mono (by decide)) rfl (aa (pv 0) (aa ao af))))
      (ah (aT (i:=2) gS.nd rfl (Gf rfl) (aB O_law_idle_plan (hr.mono (by decide)) rfl (aa (aB O_law_bag (hr.mono (by decide)) rfl (aa (pv 0) (aa ao af))) (aa (aB O_law_count (hr.mono (by decide)) rfl (aa (pv 1) (aa ao af))) af))))
      (ah (cG (bw (aI bP (aB O_law_take (hr.mono (by decide)) rfl (aa (pv 1) (aa ao af))) ao (aQ _))
      (av (aT (i:=2) gS.nd rfl (Gf rfl) (aF aK (aB O_led_past (hr.mono (by decide)) rfl (aa (pv 2) (aa (bC dm ao (aB O_law_take (hr.mono (by decide)) rfl (aa (pv 1) (aa ao af)))) af))) ao (fun _ _=>rfl))))
      bf))
      (ah (cV (aB O_short (hr.mono (by decide)) rfl (aa (pv 2) af)) (cU rfl (aR (aG (i:=3) gS.nd rfl (Gf rfl)) (aR (aG (i:=4) gS.nd rfl (Gf rfl)) cI))))
      (ah (fY PassesOwn.never rfl (fo rfl Z.range (aa (bb aV rfl Z.len bT (aa (pv 3) af)) af)) (aG (i:=5) gS.nd rfl (Gf rfl))
      (av (bw (PW.pt (kc (aI (zp hr.units) (aF aK (aF aK (pv 3) (pv 5) (fun _ _=>rfl)) ao (fun _ _=>rfl)) (bx af) (aQ _)) (kc (aI bP (aF aK (aF aK (aF aK (pv 3) (pv 5) (fun _ _=>rfl)) ao (fun _ _=>rfl)) ao (fun _ _=>rfl)) bc (aQ _)) (jW (aI (qr hr.units) (aF aK (aF aK (pv 3) (pv 5) (fun _ _=>rfl)) ao (fun _ _=>rfl)) (bx (aa bc (aa (pv 5) af))) (aQ _))))))
      (av (aC iK))
      bf)))
      (ah (aT (i:=1) gS.nd rfl (Gf rfl) (aB O_law_bag (hr.mono (by decide)) rfl (aa (pv 0) (aa ao af))))
      (ah (fY PassesOwn.never rfl (fo rfl Z.range (aa (bC dm ao (bb (m4 rfl) rfl Z.min qo (aa (bb aV rfl Z.len bT (aa (pv 0) af)) (aa ao af)))) af)) (aG (i:=5) gS.nd rfl (Gf rfl))
      (ah (aT (i:=6) gS.nd rfl (Gf rfl) (aB O_law_input (hr.mono (by decide)) rfl (aa (pv 1) af)))
      (ah (aT (i:=7) gS.nd rfl (Gf rfl) (aF cy (cP (aa (aB O_law_take (hr.mono (by decide)) rfl (aa (pv 1) (aa ao af))) (aa (aB O_law_take (hr.mono (by decide)) rfl (aa (pv 1) (aa ao af))) (aa ao af)))) (bb (sQ rfl) rfl Z.max zk (aa ao (aa (bC gH (aB O_law_take (hr.mono (by decide)) rfl (aa (pv 1) (aa ao af))) ao) af))) (fun _ _=>rfl)))
      (av (bw (y0 (j9 (aB O_law_right (hr.mono (by decide)) rfl (aa (pv 2) (aa (pv 3) (aa (pv 6) (aa (pv 7) af)))))))
      (av (aC iK))
      bf)))))
      (av (aC (fH bP (bb aV rfl Z.len bT (aa (pv 4) af)) (bb aV rfl Z.len bT (aa (pv 3) af)) (aQ _))))))))))),?_⟩
    refine⟨_,rfl,a,ns,0,rfl,hS,(by decide),fun b H1 nb B1 s1=>?_⟩
    refine⟨_,rfl,a,ns,1,rfl,s1.seq hS,(by decide),fun b2 H2 nb2 B2 s2=>?_⟩
    have nbb:b2≠b:=B1.eV nb2
    refine⟨_,rfl,b,12,rfl,B1.same s2,(by omega),(by omega),fun c H3 c0 c1 B3 X3=>?_⟩
    have B23:cQ H3 b2:=by
      obtain⟨x,y,e,zz⟩:=B2
      exact⟨x,y,X3 _ _ e nbb,zz⟩
    refine⟨b2,c,rfl,B23,c0,(by omega),fun plv xs ps H4 r4 hc4 pok xok B4 X4=>?_⟩
    have s3:ar H H3:=ar.uQ (s1.trans s2) nb X3
    have s4:ar H H4:=ar.uQ s3 (s1.free nb2) X4
    have B34:cQ H4 b:=by
      obtain⟨x,y,e,zz⟩:=B3
      exact⟨x,y,X4 _ _ e nbb.symm,zz⟩
    have hn0:0<ps.length:=by omega
    have pok6:=pok.up (k:=6) (by decide)
    have hx10:xs.length<=10:=by have:=xok.2;omega
    clear B23 B2 X3 B3 B4 X4 s3 nbb
    refine⟨fun σ' H'=>∃(plv:V) (ps:List Piece) (u1 u2 u3 u4 u5:Option V),σ' = [some (.ref a),some (.ref b),some plv,u1,u2,u3,u4,u5]/\aX H' plv (cN ps)/\cL xs 6 ps/\0<ps.length/\ps.length<=60/\ar H H',?_,?_⟩
    . refine⟨_,rfl,b,2,rfl,B34,⟨by decide,by decide +kernel⟩,fun z H5 z0 z1 B5 X5=>⟨rfl,_,rfl,?_⟩⟩
      have r5:=r4.fix B34 X5 (cK ps)
      have s5:ar H H5:=fun c o e=>X5 c o (s4 c o e) (aw e nb)
      refine cZ (fun hc=>?_) (fun hc=>?_)
      . refine⟨_,rfl,_,rfl,b,40,rfl,B5,⟨by decide,by decide +kernel⟩,fun z2 H6 z20 z21 B6 X6=>⟨_,_,rfl,rfl,?_⟩⟩
        obtain⟨k,rfl⟩:∃k:Nat,z2=k:=⟨z2.toNat,by omega⟩
        have r6:=r5.fix B5 X6 (cK ps)
        have s6:ar H H6:=fun c o e=>X6 c o (s5 c o e) (aw e nb)
        refine⟨plv,ps,xs,1+k,congrArg (fun z=>[plv,V.int z]) (show (1:Int)+(k:Int)=((1+k:Nat):Int) by omega),r6,pok6,xok.1,hx10,hn0,(by omega),(by omega),(by omega),fun lv ds H7 cc r7 s7=>?_⟩
        obtain⟨lp,lvs,rfl,hlp,rl⟩:=aX.bN r7
        obtain⟨ov,t1,rfl,ro,rl⟩:=rl.cons_inv
        obtain⟨hz1,hz2⟩:=Ag pok6 hn0 (show 1<=1+k by omega)
        refine⟨lp,_,0,_,rfl,rfl,ay.of hlp,bM,?_⟩
        exact⟨ov,_,_,_,_,_,_,rfl,ro,Af pok6 hn0 (by omega),hz1,(by omega),s6.trans s7⟩
      . exact⟨plv,ps,_,_,_,_,_,rfl,r5,pok6,hn0,(by omega),s5⟩
    clear r4 pok pok6 hn0 hc4 s4 B34 s2 nb2 c1 c0
    rintro σ' H5 ⟨plv,ps,u1,u2,u3,u4,u5,rfl,r5,pok,hn0,hn60,s5⟩
    have hin:=pok.qx
    obtain⟨pp,pvs,rfl,hpp,rpv⟩:=aX.bN r5
    refine⟨_,rfl,.ref pp,ps,rfl,r5,hin,hn0,(by omega),fun lv H6 r6 s6=>?_⟩
    obtain⟨lp,lvs,rfl,hlp,rl⟩:=aX.bN (show aX H6 lv (.tuple [.tuple ((bG ps).2.map df),.tuple ((bG ps).1.map Bx)]) from r6)
    obtain⟨ov,t1,rfl,ro,rl⟩:=rl.cons_inv
    obtain⟨cv,t2,rfl,rc,rl⟩:=rl.cons_inv
    have z:=rl.nil_inv
    subst z
    obtain⟨op,ovs,rfl,hop,rovs⟩:=aX.bN ro
    obtain⟨cp,cvs,rfl,hcp,rcvs⟩:=aX.bN rc
    have pokS:=yF pok hn0
    have hinS:=pokS.qx
    have layS:=BA xok.1 pokS
    obtain⟨IS,hlS,hmS⟩:=kX hin hn0
    have hS0:0<(bG ps).2.length:=by rw [hlS];exact (GQ.mp hmS).1
    have hSn:(bG ps).1.length<=ps.length:=dz IS.nd fun k hk=>(IS.lt k hk).1
    have hself:=fun {j q:Nat} (h:(bG ps).2[j]?=some ([],.go q))=>yG hin hn0 h
    have hvl:ovs.length=(bG ps).2.length:=by have:=rovs.len;rw [Gg] at this;exact this
    have hcl:cvs.length=(bG ps).1.length:=by have:=rcvs.len;rw [Gg] at this;exact this
    refine⟨lp,_,rfl,ay.of hlp,rfl,_,_,rfl,_,_,rfl,rfl,?_⟩
    refine⟨_,rfl,op,_,rfl,.inr (ay.of hop),_,rfl,(by omega),(by omega),jq (lo:=0) (fun i Gd H'=>∃u3:Option V,Gd=[some (.ref a),some (.ref b),some (.ref pp),some (.ref op),some (.ref cp),u3,u4,u5]/\ar H6 H') ?_ ?_ ?_⟩
    . exact⟨_,rfl,ar.refl _⟩
    . rintro i Gd H7 hi ⟨v3,rfl,s7⟩
      have hil:i<(bG ps).2.length:=by omega
      have hoi:(bG ps).2[i]?=some (bG ps).2[i]:=by simp [hil]
      generalize (bG ps).2[i]=pce at hoi
      obtain⟨ds,e⟩:=pce
      have ro7:aX H7 (.ref op) (cN (bG ps).2):=.tup (s7 _ _ hop) (rovs.same s7 (bg _))
      obtain⟨p',xs',pc,da,ea,ws,ep,e1',el',hx',e2,e3,r3,e4⟩:=eX ro7 hoi
      cases ep
      rw [s7 _ _ hop] at e1'
      cases e1'
      have hx2:fw ovs (0+(i:Int))=some (V.ref pc):=by rw [Int.zero_add];exact bI hx'
      have lays:=layS _ (GJ hoi)
      refine dB ?_
      have fin:∀H',ar H7 H'->∃u3:Option V,[some (V.ref a),some (.ref b),some (.ref pp),some (.ref op),some (.ref cp),some (.int (0+(i:Int))),u4,u5]=[some (V.ref a),some (.ref b),some (.ref pp),some (.ref op),some (.ref cp),u3,u4,u5]/\ar H6 H':=fun H' s=>⟨_,rfl,s7.trans s⟩
      refine⟨_,rfl,_,rfl,op,_,_,_,rfl,rfl,ay.of (s7 _ _ hop),hx2,pc,_,0,_,rfl,rfl,ay.of e2,bM,(by show 0<=sizeLine;decide),fun t0 n0=>?_⟩
      have q0:=ar.new (o:=.tup []) n0
      refine⟨.tuple (ds.map dI),.tuple [],.tup (q0 _ _ e3) (r3.same q0 (cw ds)),.tup ae .nil,lays.1,rfl,(by have:(PyData.tuple []).depth<=1:=Gi 1;omega),_,rfl,?_⟩
      generalize (upd H7 t0 (.tup []))=H8 at q0
      cases ds with
      | cons d0 ds0 =>
        refine aU rfl (cq ?_)
        exact fin _ q0
      | nil =>
        refine bZ rfl ?_
        refine⟨_,rfl,_,rfl,op,_,_,_,rfl,rfl,ay.of (q0 _ _ (s7 _ _ hop)),hx2,pc,_,1,_,rfl,rfl,ay.of (q0 _ _ e2),cW,ea,_,0,_,rfl,rfl,ay.of (q0 _ _ e4),(by cases e <;> exact bM:fw (fg e) 0=some (V.str (wE e))),rfl,_,rfl,?_⟩
        cases e with
        | stop =>
          refine aU (show decide (V.str "stop" = V.str "go")=false by decide +kernel) (cq ?_)
          exact fin _ q0
        | cE tb tx t k1 k2 =>
          refine aU (show decide (V.str (wT tb)=V.str "go")=false by cases tb <;> decide +kernel) (cq ?_)
          exact fin _ q0
        | go qq =>
          have eq:=hself hoi
          subst eq
          refine bZ (show decide (V.str "go" = V.str "go")=true by decide +kernel) ?_
          refine⟨_,rfl,_,rfl,op,_,_,_,rfl,rfl,ay.of (q0 _ _ (s7 _ _ hop)),hx2,pc,_,1,_,rfl,rfl,ay.of (q0 _ _ e2),cW,_,rfl,ln2,fun t1 n1=>?_⟩
          have q1:=ar.new (o:=.tup [.str "go",.int (0+(qq:Int))]) n1
          have lg:(PyData.tuple [PyData.str "go",.int (qq:Nat)]).canLay0=true:=lays.2
          refine⟨.tuple [.str "go",.int (qq:Nat)],.tuple [.str "go",.int (qq:Nat)],.tup (q1 _ _ (q0 _ _ e4)) (.cons (.str _) (.cons (.int _) .nil)),.tup ae (.cons (.str _) (.cons (by rw [Int.zero_add];exact .int _) .nil)),lg,lg,(by show min 1 1<=60;decide),_,rfl,?_⟩
          refine aU (by rw [PySem.SeqAt.eqv_refl _ lg];rfl) ?_
          exact fin _ (q0.trans q1)
    rintro Gd H7 ⟨v3,rfl,s7⟩
    have s67:=(s5.trans s6).trans s7
    refine⟨_,rfl,a,ns,2,rfl,s67.seq hS,(by decide),fun b3 H8 nb3 B8 s8=>?_⟩
    refine⟨_,rfl,a,_,rfl,.inl ((s67.trans s8).seq hS),_,_,rfl,_,_,rfl,rfl,_,rfl,(by split <;> (try rw [Gg]) <;> omega),(by split <;> (try rw [Gg]) <;> omega),jq (lo:=0) (fun i Gd H'=>∃u3 u4 u5:Option V,Gd=[some (.ref a),some (.ref b3),some (.ref pp),some (.ref op),some (.ref cp),u3,u4,u5]/\cQ H' b3/\ar H7 H') ?_ ?_ ?_⟩
    . exact⟨_,_,_,rfl,B8,s8⟩
    . rintro i Gd H9 hi ⟨v3,v4,v5,rfl,B9,s9⟩
      refine dB ?_
      refine⟨_,rfl,b3,rfl,B9,fun np nums H10 hnp B10 X10=>?_⟩
      refine⟨_,rfl,b3,40,rfl,B10,⟨by decide,by decide +kernel⟩,fun d1 H11 d10 d11 B11 X11=>?_⟩
      refine⟨_,rfl,b3,151,rfl,B11,⟨by decide,by decide +kernel⟩,fun d2 H12 d20 d21 B12 X12=>⟨uP,fun l0 n0=>?_⟩⟩
      refine⟨_,rfl,b3,10,rfl,B12.new n0,⟨by decide,by decide +kernel⟩,fun d3 H13 d30 d31 B13 X13=>⟨_,_,rfl,rfl,_,_,rfl,?_⟩⟩
      have h0:H13 l0=some (.lst [.int d1,.int d2,.int 2000]):=X13 l0 _ ae (B12.eV n0)
      have pk:∃m:Nat,fw [V.int d1,V.int d2,V.int 2000] (if d3-7 > 0 then d3-7 else 0)=some (V.int m)/\m<=2000:=by
        obtain⟨k1,rfl⟩:∃k:Nat,d1=k:=⟨d1.toNat,by omega⟩
        obtain⟨k2,rfl⟩:∃k:Nat,d2=k:=⟨d2.toNat,by omega⟩
        have hz:(if d3-7 > 0 then d3-7 else 0)=0\/(if d3-7 > 0 then d3-7 else 0)=1\/(if d3-7 > 0 then d3-7 else 0)=2:=by split <;> omega
        rcases hz with z | z | z <;> rw [z]
        . exact⟨k1,bM,by omega⟩
        . exact⟨k2,cW,by omega⟩
        . exact⟨2000,at2,Gi _⟩
      obtain⟨m,hm,hm2⟩:=pk
      refine⟨l0,_,_,_,rfl,rfl,aY.of h0,hm,?_⟩
      have F13:Fix b3 H10 H13:=((X11.trans X12).trans (Fix.new n0)).trans X13
      have hnp13:=F13 _ _ hnp (B10.lK hnp)
      have s13:ar H7 H13:=ar.uQ s9 nb3 (X10.trans F13)
      have s613:=s7.trans s13
      refine⟨_,rfl,_,rfl,_,rfl,_,rfl,np,pp,.ref op,m,nums,ps,pvs,rfl,s613 _ _ (s6 _ _ hpp),(rpv.same s6 (bg ps)).same s613 (bg ps),.tup (s613 _ _ hop) (rovs.same s613 (bg _)),hin,hinS,hn0,hS0,hn60,hnp13,hm2,fun H14 s14=>⟨_,rfl,cq ?_⟩⟩
      exact⟨_,_,_,rfl,B13.same s14,s13.trans s14⟩
    . rintro Gd H9 ⟨v3,v4,v5,rfl,B9,s9⟩
      have s69:=s7.trans s9
      refine⟨_,rfl,cp,_,rfl,.inr (ay.of (s69 _ _ hcp)),_,rfl,op,_,rfl,.inr (ay.of (s69 _ _ hop)),rfl,?_⟩
      rw [decide_eq_true (show V.int ((cvs.length:Nat):Int)=V.int ((ovs.length:Nat):Int) by rw [hcl,hvl,hlS])]
      exact q _
end
theorem all_mk {l:PySem.W.OpenLaw} {w:World} {K:Gh} {h:Heap} {mg:Str->Option Value} {fa:Addr} (X:K.In h) (G:h.Ns mainGlobals mg) (hfa:mg "law" = some (.ref fa))
  {f0:Addr} {od0 an0:Option Addr} {sl0:Array (Option Value)} {oc0 kV0 dc0 pm0 cd0 ct0:Value}
  {f1:Addr} {od1 an1:Option Addr} {sl1:Array (Option Value)} {oc1 kV1 dc1 pm1 cd1 ct1:Value}
  {f2:Addr} {od2 an2:Option Addr} {sl2:Array (Option Value)} {oc2 kV2 dc2 pm2 cd2 ct2:Value}
  {f3:Addr} {od3 an3:Option Addr} {sl3:Array (Option Value)} {oc3 kV3 dc3 pm3 cd3 ct3:Value}
  {f4:Addr} {od4 an4:Option Addr} {sl4:Array (Option Value)} {oc4 kV4 dc4 pm4 cd4 ct4:Value}
  {f5:Addr} {od5 an5:Option Addr} {sl5:Array (Option Value)} {oc5 kV5 dc5 pm5 cd5 ct5:Value}
  {f6:Addr} {od6 an6:Option Addr} {sl6:Array (Option Value)} {oc6 kV6 dc6 pm6 cd6 ct6:Value}
  {f7:Addr} {od7 an7:Option Addr} {sl7:Array (Option Value)} {oc7 kV7 dc7 pm7 cd7 ct7:Value}
  {f8:Addr} {od8 an8:Option Addr} {sl8:Array (Option Value)} {oc8 kV8 dc8 pm8 cd8 ct8:Value}
  {f9:Addr} {od9 an9:Option Addr} {sl9:Array (Option Value)} {oc9 kV9 dc9 pm9 cd9 ct9:Value}
  {f10:Addr} {od10 an10:Option Addr} {sl10:Array (Option Value)} {oc10 kV10 dc10 pm10 cd10 ct10:Value}
  {f11:Addr} {od11 an11:Option Addr} {sl11:Array (Option Value)} {oc11 kV11 dc11 pm11 cd11 ct11:Value}
  {f12:Addr} {od12 an12:Option Addr} {sl12:Array (Option Value)} {oc12 kV12 dc12 pm12 cd12 ct12:Value}
  {f13:Addr} {od13 an13:Option Addr} {sl13:Array (Option Value)} {oc13 kV13 dc13 pm13 cd13 ct13:Value}
  {f14:Addr} {od14 an14:Option Addr} {sl14:Array (Option Value)} {oc14 kV14 dc14 pm14 cd14 ct14:Value}
  {f15:Addr} {od15 an15:Option Addr} {sl15:Array (Option Value)} {oc15 kV15 dc15 pm15 cd15 ct15:Value}
  {f16:Addr} {od16 an16:Option Addr} {sl16:Array (Option Value)} {oc16 kV16 dc16 pm16 cd16 ct16:Value}
  {f17:Addr} {od17 an17:Option Addr} {sl17:Array (Option Value)} {oc17 kV17 dc17 pm17 cd17 ct17:Value}
  {f18:Addr} {od18 an18:Option Addr} {sl18:Array (Option Value)} {oc18 kV18 dc18 pm18 cd18 ct18:Value}
  {f19:Addr} {od19 an19:Option Addr} {sl19:Array (Option Value)} {oc19 kV19 dc19 pm19 cd19 ct19:Value}
  {f20:Addr} {od20 an20:Option Addr} {sl20:Array (Option Value)} {oc20 kV20 dc20 pm20 cd20 ct20:Value}
  {f21:Addr} {od21 an21:Option Addr} {sl21:Array (Option Value)} {oc21 kV21 dc21 pm21 cd21 ct21:Value}
  {f22:Addr} {od22 an22:Option Addr} {sl22:Array (Option Value)} {oc22 kV22 dc22 pm22 cd22 ct22:Value}
  {f23:Addr} {od23 an23:Option Addr} {sl23:Array (Option Value)} {oc23 kV23 dc23 pm23 cd23 ct23:Value}
  {f24:Addr} {od24 an24:Option Addr} {sl24:Array (Option Value)} {oc24 kV24 dc24 pm24 cd24 ct24:Value}
  {f25:Addr} {od25 an25:Option Addr} {sl25:Array (Option Value)} {oc25 kV25 dc25 pm25 cd25 ct25:Value}
  {f26:Addr} {od26 an26:Option Addr} {sl26:Array (Option Value)} {oc26 kV26 dc26 pm26 cd26 ct26:Value}
  {f27:Addr} {od27 an27:Option Addr} {sl27:Array (Option Value)} {oc27 kV27 dc27 pm27 cd27 ct27:Value}
  {f28:Addr} {od28 an28:Option Addr} {sl28:Array (Option Value)} {oc28 kV28 dc28 pm28 cd28 ct28:Value}
  {f29:Addr} {od29 an29:Option Addr} {sl29:Array (Option Value)} {oc29 kV29 dc29 pm29 cd29 ct29:Value}
  {f30:Addr} {od30 an30:Option Addr} {sl30:Array (Option Value)} {oc30 kV30 dc30 pm30 cd30 ct30:Value}
  {f31:Addr} {od31 an31:Option Addr} {sl31:Array (Option Value)} {oc31 kV31 dc31 pm31 cd31 ct31:Value}
  {f32:Addr} {od32 an32:Option Addr} {sl32:Array (Option Value)} {oc32 kV32 dc32 pm32 cd32 ct32:Value}
  {f33:Addr} {od33 an33:Option Addr} {sl33:Array (Option Value)} {oc33 kV33 dc33 pm33 cd33 ct33:Value}
  {f34:Addr} {od34 an34:Option Addr} {sl34:Array (Option Value)} {oc34 kV34 dc34 pm34 cd34 ct34:Value}
  {f35:Addr} {od35 an35:Option Addr} {sl35:Array (Option Value)} {oc35 kV35 dc35 pm35 cd35 ct35:Value}
  {f36:Addr} {od36 an36:Option Addr} {sl36:Array (Option Value)} {oc36 kV36 dc36 pm36 cd36 ct36:Value}
  {f37:Addr} {od37 an37:Option Addr} {sl37:Array (Option Value)} {oc37 kV37 dc37 pm37 cd37 ct37:Value}
  {f38:Addr} {od38 an38:Option Addr} {sl38:Array (Option Value)} {oc38 kV38 dc38 pm38 cd38 ct38:Value}
  {f39:Addr} {od39 an39:Option Addr} {sl39:Array (Option Value)} {oc39 kV39 dc39 pm39 cd39 ct39:Value}
  {f40:Addr} {od40 an40:Option Addr} {sl40:Array (Option Value)} {oc40 kV40 dc40 pm40 cd40 ct40:Value}
  {f41:Addr} {od41 an41:Option Addr} {sl41:Array (Option Value)} {oc41 kV41 dc41 pm41 cd41 ct41:Value}
  {f42:Addr} {od42 an42:Option Addr} {sl42:Array (Option Value)} {oc42 kV42 dc42 pm42 cd42 ct42:Value}
  {f43:Addr} {od43 an43:Option Addr} {sl43:Array (Option Value)} {oc43 kV43 dc43 pm43 cd43 ct43:Value}
  {f44:Addr} {od44 an44:Option Addr} {sl44:Array (Option Value)} {oc44 kV44 dc44 pm44 cd44 ct44:Value}
  {f45:Addr} {od45 an45:Option Addr} {sl45:Array (Option Value)} {oc45 kV45 dc45 pm45 cd45 ct45:Value}
  {f46:Addr} {od46 an46:Option Addr} {sl46:Array (Option Value)} {oc46 kV46 dc46 pm46 cd46 ct46:Value}
  {f47:Addr} {od47 an47:Option Addr} {sl47:Array (Option Value)} {oc47 kV47 dc47 pm47 cd47 ct47:Value}
  {f48:Addr} {od48 an48:Option Addr} {sl48:Array (Option Value)} {oc48 kV48 dc48 pm48 cd48 ct48:Value}
  {f49:Addr} {od49 an49:Option Addr} {sl49:Array (Option Value)} {oc49 kV49 dc49 pm49 cd49 ct49:Value}
  {f50:Addr} {od50 an50:Option Addr} {sl50:Array (Option Value)} {oc50 kV50 dc50 pm50 cd50 ct50:Value}
  {f51:Addr} {od51 an51:Option Addr} {sl51:Array (Option Value)} {oc51 kV51 dc51 pm51 cd51 ct51:Value}
  {f52:Addr} {od52 an52:Option Addr} {sl52:Array (Option Value)} {oc52 kV52 dc52 pm52 cd52 ct52:Value}
  {f53:Addr} {od53 an53:Option Addr} {sl53:Array (Option Value)} {oc53 kV53 dc53 pm53 cd53 ct53:Value}
  {f54:Addr} {od54 an54:Option Addr} {sl54:Array (Option Value)} {oc54 kV54 dc54 pm54 cd54 ct54:Value}
  {f55:Addr} {od55 an55:Option Addr} {sl55:Array (Option Value)} {oc55 kV55 dc55 pm55 cd55 ct55:Value}
  {f56:Addr} {od56 an56:Option Addr} {sl56:Array (Option Value)} {oc56 kV56 dc56 pm56 cd56 ct56:Value}
  {f57:Addr} {od57 an57:Option Addr} {sl57:Array (Option Value)} {oc57 kV57 dc57 pm57 cd57 ct57:Value}
  {f58:Addr} {od58 an58:Option Addr} {sl58:Array (Option Value)} {oc58 kV58 dc58 pm58 cd58 ct58:Value}
  {aA:Addr} {dcA:Option Addr} {nA:Nat} {slA:Array (Option Value)}
  {tk_MOST_TO_LEAD:Tok}
  {aE:Addr} {epE:Nat} {s0:Addr} {hsE0:Int} {tkE0:Tok} {dcE0:Option Addr} {nnE0:Nat} {slE0:Array (Option Value)}  {s1:Addr} {hsE1:Int} {tkE1:Tok} {dcE1:Option Addr} {nnE1:Nat} {slE1:Array (Option Value)} {ttE1_0:Tok} {s2:Addr} {hsE2:Int} {tkE2:Tok} {dcE2:Option Addr} {nnE2:Nat} {slE2:Array (Option Value)} {ttE2_0:Tok} {ttE2_1:Tok} {ttE2_2:Tok} {ttE2_3:Tok} {s3:Addr} {hsE3:Int} {tkE3:Tok} {dcE3:Option Addr} {nnE3:Nat} {slE3:Array (Option Value)} {ttE3_0:Tok} {ttE3_1:Tok} {ttE3_2:Tok} {ttE3_3:Tok}
  {aD:Addr} {epD:Nat} {d0:Addr} {hsD0:Int} {tkD0:Tok} {dcD0:Option Addr} {nnD0:Nat} {slD0:Array (Option Value)} {ttD0_0:Tok} {ttD0_1:Tok} {d1:Addr} {hsD1:Int} {tkD1:Tok} {dcD1:Option Addr} {nnD1:Nat} {slD1:Array (Option Value)} {ttD1_0:Tok} {ttD1_1:Tok} {d2:Addr} {hsD2:Int} {tkD2:Tok} {dcD2:Option Addr} {nnD2:Nat} {slD2:Array (Option Value)} {ttD2_0:Tok} {ttD2_1:Tok} {d3:Addr} {hsD3:Int} {tkD3:Tok} {dcD3:Option Addr} {nnD3:Nat} {slD3:Array (Option Value)} {ttD3_0:Tok} {d4:Addr} {hsD4:Int} {tkD4:Tok} {dcD4:Option Addr} {nnD4:Nat} {slD4:Array (Option Value)} {ttD4_0:Tok}
  {C:Addr}
  {CR:Addr}
  (a0:Gn K mainGlobals "parts_of_kind" = some (some (.ref f0))) (l0:K.lookup f0=some ⟨oc0,od0,.func (Gk "parts_of_kind" "parts_of_kind" (aL d6) (aJ d6) (au d6) .none kV0 dc0 pm0 an0 cd0 ct0),sl0⟩) (c0:Gm K cd0 "parts_of_kind" = true) (k0:Gj K (.ref f0)=true)
  (a1:Gn K mainGlobals "ways_on" = some (some (.ref f1))) (l1:K.lookup f1=some ⟨oc1,od1,.func (Gk "ways_on" "ways_on" (aL iC) (aJ iC) (au iC) .none kV1 dc1 pm1 an1 cd1 ct1),sl1⟩) (c1:Gm K cd1 "ways_on" = true) (k1:Gj K (.ref f1)=true)
  (a2:Gn K mainGlobals "without_ways" = some (some (.ref f2))) (l2:K.lookup f2=some ⟨oc2,od2,.func (Gk "without_ways" "without_ways" (aL eJ) (aJ eJ) (au eJ) .none kV2 dc2 pm2 an2 cd2 ct2),sl2⟩) (c2:Gm K cd2 "without_ways" = true) (k2:Gj K (.ref f2)=true)
  (a3:Gn K mainGlobals "names_of" = some (some (.ref f3))) (l3:K.lookup f3=some ⟨oc3,od3,.func (Gk "names_of" "names_of" (aL hJ) (aJ hJ) (au hJ) .none kV3 dc3 pm3 an3 cd3 ct3),sl3⟩) (c3:Gm K cd3 "names_of" = true) (k3:Gj K (.ref f3)=true)
  (a4:Gn K mainGlobals "lies_in" = some (some (.ref f4))) (l4:K.lookup f4=some ⟨oc4,od4,.func (Gk "lies_in" "lies_in" (aL iD) (aJ iD) (au iD) .none kV4 dc4 pm4 an4 cd4 ct4),sl4⟩) (c4:Gm K cd4 "lies_in" = true) (k4:Gj K (.ref f4)=true)
  (a5:Gn K mainGlobals "part_below" = some (some (.ref f5))) (l5:K.lookup f5=some ⟨oc5,od5,.func (Gk "part_below" "part_below" (aL fN) (aJ fN) (au fN) .none kV5 dc5 pm5 an5 cd5 ct5),sl5⟩) (c5:Gm K cd5 "part_below" = true) (k5:Gj K (.ref f5)=true)
  (a6:Gn K mainGlobals "part_from" = some (some (.ref f6))) (l6:K.lookup f6=some ⟨oc6,od6,.func (Gk "part_from" "part_from" (aL gh) (aJ gh) (au gh) .none kV6 dc6 pm6 an6 cd6 ct6),sl6⟩) (c6:Gm K cd6 "part_from" = true) (k6:Gj K (.ref f6)=true)
  (a7:Gn K mainGlobals "part_at" = some (some (.ref f7))) (l7:K.lookup f7=some ⟨oc7,od7,.func (Gk "part_at" "part_at" (aL iE) (aJ iE) (au iE) .none kV7 dc7 pm7 an7 cd7 ct7),sl7⟩) (c7:Gm K cd7 "part_at" = true) (k7:Gj K (.ref f7)=true)
  (a8:Gn K mainGlobals "part_beside" = some (some (.ref f8))) (l8:K.lookup f8=some ⟨oc8,od8,.func (Gk "part_beside" "part_beside" (aL fj) (aJ fj) (au fj) .none kV8 dc8 pm8 an8 cd8 ct8),sl8⟩) (c8:Gm K cd8 "part_beside" = true) (k8:Gj K (.ref f8)=true)
  (a9:Gn K mainGlobals "part_of" = some (some (.ref f9))) (l9:K.lookup f9=some ⟨oc9,od9,.func (Gk "part_of" "part_of" (aL iF) (aJ iF) (au iF) .none kV9 dc9 pm9 an9 cd9 ct9),sl9⟩) (c9:Gm K cd9 "part_of" = true) (k9:Gj K (.ref f9)=true)
  (a10:Gn K mainGlobals "facts_of" = some (some (.ref f10))) (l10:K.lookup f10=some ⟨oc10,od10,.func (Gk "facts_of" "facts_of" (aL hR) (aJ hR) (au hR) .none kV10 dc10 pm10 an10 cd10 ct10),sl10⟩) (c10:Gm K cd10 "facts_of" = true) (k10:Gj K (.ref f10)=true)
  (a11:Gn K mainGlobals "known" = some (some (.ref f11))) (l11:K.lookup f11=some ⟨oc11,od11,.func (Gk "known" "known" (aL jZ) (aJ jZ) (au jZ) .none kV11 dc11 pm11 an11 cd11 ct11),sl11⟩) (c11:Gm K cd11 "known" = true) (k11:Gj K (.ref f11)=true)
  (a12:Gn K mainGlobals "with_known" = some (some (.ref f12))) (l12:K.lookup f12=some ⟨oc12,od12,.func (Gk "with_known" "with_known" (aL fO) (aJ fO) (au fO) .none kV12 dc12 pm12 an12 cd12 ct12),sl12⟩) (c12:Gm K cd12 "with_known" = true) (k12:Gj K (.ref f12)=true)
  (a13:Gn K mainGlobals "moved" = some (some (.ref f13))) (l13:K.lookup f13=some ⟨oc13,od13,.func (Gk "moved" "moved" (aL j0) (aJ j0) (au j0) .none kV13 dc13 pm13 an13 cd13 ct13),sl13⟩) (c13:Gm K cd13 "moved" = true) (k13:Gj K (.ref f13)=true)
  (a14:Gn K mainGlobals "stretch_behind" = some (some (.ref f14))) (l14:K.lookup f14=some ⟨oc14,od14,.func (Gk "stretch_behind" "stretch_behind" (aL dG) (aJ dG) (au dG) .none kV14 dc14 pm14 an14 cd14 ct14),sl14⟩) (c14:Gm K cd14 "stretch_behind" = true) (k14:Gj K (.ref f14)=true)
  (a15:Gn K mainGlobals "behind" = some (some (.ref f15))) (l15:K.lookup f15=some ⟨oc15,od15,.func (Gk "behind" "behind" (aL jc) (aJ jc) (au jc) .none kV15 dc15 pm15 an15 cd15 ct15),sl15⟩) (c15:Gm K cd15 "behind" = true) (k15:Gj K (.ref f15)=true)
  (a16:Gn K mainGlobals "known_beyond" = some (some (.ref f16))) (l16:K.lookup f16=some ⟨oc16,od16,.func (Gk "known_beyond" "known_beyond" (aL eM) (aJ eM) (au eM) .none kV16 dc16 pm16 an16 cd16 ct16),sl16⟩) (c16:Gm K cd16 "known_beyond" = true) (k16:Gj K (.ref f16)=true)
  (a17:Gn K mainGlobals "leads" = some (some (.ref f17))) (l17:K.lookup f17=some ⟨oc17,od17,.func (Gk "leads" "leads" (aL j1) (aJ j1) (au j1) .none kV17 dc17 pm17 an17 cd17 ct17),sl17⟩) (c17:Gm K cd17 "leads" = true) (k17:Gj K (.ref f17)=true)
  (a18:Gn K mainGlobals "start" = some (some (.ref f18))) (l18:K.lookup f18=some ⟨oc18,od18,.func (Gk "start" "start" (aL j2) (aJ j2) (au j2) .none kV18 dc18 pm18 an18 cd18 ct18),sl18⟩) (c18:Gm K cd18 "start" = true) (k18:Gj K (.ref f18)=true)
  (a19:GG K (.ref CR) "__init__" = some (some (.ref f19))) (i19:G6 K (.ref f19)=true) (l19:K.lookup f19=some ⟨oc19,od19,.func (Gk "__init__" "Row.__init__" (aL eN) (aJ eN) (au eN) .none kV19 dc19 pm19 an19 cd19 ct19),sl19⟩) (c19:Gm K cd19 "Row.__init__" = true) (k19:Gj K (.ref f19)=true)
  (a20:GG K (.ref CR) "place_of" = some (some (.ref f20))) (i20:G6 K (.ref f20)=true) (l20:K.lookup f20=some ⟨oc20,od20,.func (Gk "place_of" "Row.place_of" (aL eO) (aJ eO) (au eO) .none kV20 dc20 pm20 an20 cd20 ct20),sl20⟩) (c20:Gm K cd20 "Row.place_of" = true) (k20:Gj K (.ref f20)=true)
  (a21:Gn K mainGlobals "reached" = some (some (.ref f21))) (l21:K.lookup f21=some ⟨oc21,od21,.func (Gk "reached" "reached" (aL iG) (aJ iG) (au iG) .none kV21 dc21 pm21 an21 cd21 ct21),sl21⟩) (c21:Gm K cd21 "reached" = true) (k21:Gj K (.ref f21)=true)
  (a22:Gn K mainGlobals "heads" = some (some (.ref f22))) (l22:K.lookup f22=some ⟨oc22,od22,.func (Gk "heads" "heads" (aL j3) (aJ j3) (au j3) .none kV22 dc22 pm22 an22 cd22 ct22),sl22⟩) (c22:Gm K cd22 "heads" = true) (k22:Gj K (.ref f22)=true)
  (a23:Gn K mainGlobals "copy_for" = some (some (.ref f23))) (l23:K.lookup f23=some ⟨oc23,od23,.func (Gk "copy_for" "copy_for" (aL hU) (aJ hU) (au hU) .none kV23 dc23 pm23 an23 cd23 ct23),sl23⟩) (c23:Gm K cd23 "copy_for" = true) (k23:Gj K (.ref f23)=true)
  (a24:Gn K mainGlobals "end_to" = some (some (.ref f24))) (l24:K.lookup f24=some ⟨oc24,od24,.func (Gk "end_to" "end_to" (aL jd) (aJ jd) (au jd) .none kV24 dc24 pm24 an24 cd24 ct24),sl24⟩) (c24:Gm K cd24 "end_to" = true) (k24:Gj K (.ref f24)=true)
  (a25:Gn K mainGlobals "led_past" = some (some (.ref f25))) (l25:K.lookup f25=some ⟨oc25,od25,.func (Gk "led_past" "led_past" (aL hV) (aJ hV) (au hV) .none kV25 dc25 pm25 an25 cd25 ct25),sl25⟩) (c25:Gm K cd25 "led_past" = true) (k25:Gj K (.ref f25)=true)
  (a26:Gn K mainGlobals "with_steads" = some (some (.ref f26))) (l26:K.lookup f26=some ⟨oc26,od26,.func (Gk "with_steads" "with_steads" (aL fk) (aJ fk) (au fk) .none kV26 dc26 pm26 an26 cd26 ct26),sl26⟩) (c26:Gm K cd26 "with_steads" = true) (k26:Gj K (.ref f26)=true)
  (a27:Gn K mainGlobals "is_idle" = some (some (.ref f27))) (l27:K.lookup f27=some ⟨oc27,od27,.func (Gk "is_idle" "is_idle" (aL iH) (aJ iH) (au iH) .none kV27 dc27 pm27 an27 cd27 ct27),sl27⟩) (c27:Gm K cd27 "is_idle" = true) (k27:Gj K (.ref f27)=true)
  (a28:Gn K mainGlobals "followed" = some (some (.ref f28))) (l28:K.lookup f28=some ⟨oc28,od28,.func (Gk "followed" "followed" (aL hX) (aJ hX) (au hX) .none kV28 dc28 pm28 an28 cd28 ct28),sl28⟩) (c28:Gm K cd28 "followed" = true) (k28:Gj K (.ref f28)=true)
  (a29:Gn K mainGlobals "short" = some (some (.ref f29))) (l29:K.lookup f29=some ⟨oc29,od29,.func (Gk "short" "short" (aL j4) (aJ j4) (au j4) .none kV29 dc29 pm29 an29 cd29 ct29),sl29⟩) (c29:Gm K cd29 "short" = true) (k29:Gj K (.ref f29)=true)
  (a30:Gn K mainGlobals "answer_of" = some (some (.ref f30))) (l30:K.lookup f30=some ⟨oc30,od30,.func (Gk "answer_of" "answer_of" (aL gm) (aJ gm) (au gm) .none kV30 dc30 pm30 an30 cd30 ct30),sl30⟩) (c30:Gm K cd30 "answer_of" = true) (k30:Gj K (.ref f30)=true)
  (a31:GG K (.ref C) "worth" = some (some (.ref f31))) (i31:G6 K (.ref f31)=true) (l31:K.lookup f31=some ⟨oc31,od31,.func (Gk "worth" "Stand.worth" (aL fm) (aJ fm) (au fm) .none kV31 dc31 pm31 an31 cd31 ct31),sl31⟩) (c31:Gm K cd31 "Stand.worth" = true) (k31:Gj K (.ref f31)=true)
  (a32:GG K (.ref C) "coming" = some (some (.ref f32))) (i32:G6 K (.ref f32)=true) (l32:K.lookup f32=some ⟨oc32,od32,.func (Gk "coming" "Stand.coming" (aL eS) (aJ eS) (au eS) .none kV32 dc32 pm32 an32 cd32 ct32),sl32⟩) (c32:Gm K cd32 "Stand.coming" = true) (k32:Gj K (.ref f32)=true)
  (a33:GG K (.ref C) "lacks_number" = some (some (.ref f33))) (i33:G6 K (.ref f33)=true) (l33:K.lookup f33=some ⟨oc33,od33,.func (Gk "lacks_number" "Stand.lacks_number" (aL cO) (aJ cO) (au cO) .none kV33 dc33 pm33 an33 cd33 ct33),sl33⟩) (c33:Gm K cd33 "Stand.lacks_number" = true) (k33:Gj K (.ref f33)=true)
  (a34:GG K (.ref C) "is_held" = some (some (.ref f34))) (i34:G6 K (.ref f34)=true) (l34:K.lookup f34=some ⟨oc34,od34,.func (Gk "is_held" "Stand.is_held" (aL d7) (aJ d7) (au d7) .none kV34 dc34 pm34 an34 cd34 ct34),sl34⟩) (c34:Gm K cd34 "Stand.is_held" = true) (k34:Gj K (.ref f34)=true)
  (a35:GG K (.ref C) "take_number" = some (some (.ref f35))) (i35:G6 K (.ref f35)=true) (l35:K.lookup f35=some ⟨oc35,od35,.func (Gk "take_number" "Stand.take_number" (aL cS) (aJ cS) (au cS) .none kV35 dc35 pm35 an35 cd35 ct35),sl35⟩) (c35:Gm K cd35 "Stand.take_number" = true) (k35:Gj K (.ref f35)=true)
  (a36:GG K (.ref C) "do_deed" = some (some (.ref f36))) (i36:G6 K (.ref f36)=true) (l36:K.lookup f36=some ⟨oc36,od36,.func (Gk "do_deed" "Stand.do_deed" (aL d8) (aJ d8) (au d8) .none kV36 dc36 pm36 an36 cd36 ct36),sl36⟩) (c36:Gm K cd36 "Stand.do_deed" = true) (k36:Gj K (.ref f36)=true)
  (a37:GG K (.ref C) "come_to" = some (some (.ref f37))) (i37:G6 K (.ref f37)=true) (l37:K.lookup f37=some ⟨oc37,od37,.func (Gk "come_to" "Stand.come_to" (aL d9) (aJ d9) (au d9) .none kV37 dc37 pm37 an37 cd37 ct37),sl37⟩) (c37:Gm K cd37 "Stand.come_to" = true) (k37:Gj K (.ref f37)=true)
  (a38:GG K (.ref C) "do_end" = some (some (.ref f38))) (i38:G6 K (.ref f38)=true) (l38:K.lookup f38=some ⟨oc38,od38,.func (Gk "do_end" "Stand.do_end" (aL eT) (aJ eT) (au eT) .none kV38 dc38 pm38 an38 cd38 ct38),sl38⟩) (c38:Gm K cd38 "Stand.do_end" = true) (k38:Gj K (.ref f38)=true)
  (a39:GG K (.ref C) "do_step" = some (some (.ref f39))) (i39:G6 K (.ref f39)=true) (l39:K.lookup f39=some ⟨oc39,od39,.func (Gk "do_step" "Stand.do_step" (aL eh) (aJ eh) (au eh) .none kV39 dc39 pm39 an39 cd39 ct39),sl39⟩) (c39:Gm K cd39 "Stand.do_step" = true) (k39:Gj K (.ref f39)=true)
  (a40:GG K (.ref C) "__init__" = some (some (.ref f40))) (i40:G6 K (.ref f40)=true) (l40:K.lookup f40=some ⟨oc40,od40,.func (Gk "__init__" "Stand.__init__" (aL dH) (aJ dH) (au dH) .none kV40 dc40 pm40 an40 cd40 ct40),sl40⟩) (c40:Gm K cd40 "Stand.__init__" = true) (k40:Gj K (.ref f40)=true)
  (a41:Gn K mainGlobals "go_on" = some (some (.ref f41))) (l41:K.lookup f41=some ⟨oc41,od41,.func (Gk "go_on" "go_on" (aL j5) (aJ j5) (au j5) .none kV41 dc41 pm41 an41 cd41 ct41),sl41⟩) (c41:Gm K cd41 "go_on" = true) (k41:Gj K (.ref f41)=true)
  (a42:Gn K mainGlobals "run_at" = some (some (.ref f42))) (l42:K.lookup f42=some ⟨oc42,od42,.func (Gk "run_at" "run_at" (aL je) (aJ je) (au je) .none kV42 dc42 pm42 an42 cd42 ct42),sl42⟩) (c42:Gm K cd42 "run_at" = true) (k42:Gj K (.ref f42)=true)
  (a43:Gn K mainGlobals "run" = some (some (.ref f43))) (l43:K.lookup f43=some ⟨oc43,od43,.func (Gk "run" "run" (aL oy) (aJ oy) (au oy) .none kV43 dc43 pm43 an43 cd43 ct43),sl43⟩) (c43:Gm K cd43 "run" = true) (k43:Gj K (.ref f43)=true)
  (a44:Gn K mainGlobals "_law_bag" = some (some (.ref f44))) (l44:K.lookup f44=some ⟨oc44,od44,.func (Gk "_law_bag" "_law_bag" (aL iI) (aJ iI) (au iI) .none kV44 dc44 pm44 an44 cd44 ct44),sl44⟩) (c44:Gm K cd44 "_law_bag" = true) (k44:Gj K (.ref f44)=true)
  (a45:Gn K mainGlobals "_law_take" = some (some (.ref f45))) (l45:K.lookup f45=some ⟨oc45,od45,.func (Gk "_law_take" "_law_take" (aL hZ) (aJ hZ) (au hZ) .none kV45 dc45 pm45 an45 cd45 ct45),sl45⟩) (c45:Gm K cd45 "_law_take" = true) (k45:Gj K (.ref f45)=true)
  (a46:Gn K mainGlobals "_law_names" = some (some (.ref f46))) (l46:K.lookup f46=some ⟨oc46,od46,.func (Gk "_law_names" "_law_names" (aL gn) (aJ gn) (au gn) .none kV46 dc46 pm46 an46 cd46 ct46),sl46⟩) (c46:Gm K cd46 "_law_names" = true) (k46:Gj K (.ref f46)=true)
  (a47:Gn K mainGlobals "_law_number" = some (some (.ref f47))) (l47:K.lookup f47=some ⟨oc47,od47,.func (Gk "_law_number" "_law_number" (aL fP) (aJ fP) (au fP) .none kV47 dc47 pm47 an47 cd47 ct47),sl47⟩) (c47:Gm K cd47 "_law_number" = true) (k47:Gj K (.ref f47)=true)
  (a48:Gn K mainGlobals "_law_deed" = some (some (.ref f48))) (l48:K.lookup f48=some ⟨oc48,od48,.func (Gk "_law_deed" "_law_deed" (aL ia) (aJ ia) (au ia) .none kV48 dc48 pm48 an48 cd48 ct48),sl48⟩) (c48:Gm K cd48 "_law_deed" = true) (k48:Gj K (.ref f48)=true)
  (a49:Gn K mainGlobals "_law_end" = some (some (.ref f49))) (l49:K.lookup f49=some ⟨oc49,od49,.func (Gk "_law_end" "_law_end" (aL iJ) (aJ iJ) (au iJ) .none kV49 dc49 pm49 an49 cd49 ct49),sl49⟩) (c49:Gm K cd49 "_law_end" = true) (k49:Gj K (.ref f49)=true)
  (a50:Gn K mainGlobals "_law_plan" = some (some (.ref f50))) (l50:K.lookup f50=some ⟨oc50,od50,.func (Gk "_law_plan" "_law_plan" (aL ib) (aJ ib) (au ib) .none kV50 dc50 pm50 an50 cd50 ct50),sl50⟩) (c50:Gm K cd50 "_law_plan" = true) (k50:Gj K (.ref f50)=true)
  (a51:Gn K mainGlobals "_law_count" = some (some (.ref f51))) (l51:K.lookup f51=some ⟨oc51,od51,.func (Gk "_law_count" "_law_count" (aL gu) (aJ gu) (au gu) .none kV51 dc51 pm51 an51 cd51 ct51),sl51⟩) (c51:Gm K cd51 "_law_count" = true) (k51:Gj K (.ref f51)=true)
  (a52:Gn K mainGlobals "_law_step" = some (some (.ref f52))) (l52:K.lookup f52=some ⟨oc52,od52,.func (Gk "_law_step" "_law_step" (aL ic) (aJ ic) (au ic) .none kV52 dc52 pm52 an52 cd52 ct52),sl52⟩) (c52:Gm K cd52 "_law_step" = true) (k52:Gj K (.ref f52)=true)
  (a53:Gn K mainGlobals "_law_walk" = some (some (.ref f53))) (l53:K.lookup f53=some ⟨oc53,od53,.func (Gk "_law_walk" "_law_walk" (aL ie) (aJ ie) (au ie) .none kV53 dc53 pm53 an53 cd53 ct53),sl53⟩) (c53:Gm K cd53 "_law_walk" = true) (k53:Gj K (.ref f53)=true)
  (a54:Gn K mainGlobals "_law_input" = some (some (.ref f54))) (l54:K.lookup f54=some ⟨oc54,od54,.func (Gk "_law_input" "_law_input" (aL gx) (aJ gx) (au gx) .none kV54 dc54 pm54 an54 cd54 ct54),sl54⟩) (c54:Gm K cd54 "_law_input" = true) (k54:Gj K (.ref f54)=true)
  (a55:Gn K mainGlobals "_law_idle_plan" = some (some (.ref f55))) (l55:K.lookup f55=some ⟨oc55,od55,.func (Gk "_law_idle_plan" "_law_idle_plan" (aL er) (aJ er) (au er) .none kV55 dc55 pm55 an55 cd55 ct55),sl55⟩) (c55:Gm K cd55 "_law_idle_plan" = true) (k55:Gj K (.ref f55)=true)
  (a56:Gn K mainGlobals "_law_told" = some (some (.ref f56))) (l56:K.lookup f56=some ⟨oc56,od56,.func (Gk "_law_told" "_law_told" (aL ig) (aJ ig) (au ig) .none kV56 dc56 pm56 an56 cd56 ct56),sl56⟩) (c56:Gm K cd56 "_law_told" = true) (k56:Gj K (.ref f56)=true)
  (a57:Gn K mainGlobals "_law_right" = some (some (.ref f57))) (l57:K.lookup f57=some ⟨oc57,od57,.func (Gk "_law_right" "_law_right" (aL gy) (aJ gy) (au gy) .none kV57 dc57 pm57 an57 cd57 ct57),sl57⟩) (c57:Gm K cd57 "_law_right" = true) (k57:Gj K (.ref f57)=true)
  (a58:Gn K mainGlobals "law" = some (some (.ref f58))) (l58:K.lookup f58=some ⟨oc58,od58,.func (Gk "law" "law" (aL jV) (aJ jV) (au jV) .none kV58 dc58 pm58 an58 cd58 ct58),sl58⟩) (c58:Gm K cd58 "law" = true) (k58:Gj K (.ref f58)=true)
  (z_len:Gn K mainGlobals "len" = some none)
  (z_zip:Gn K mainGlobals "zip" = some none)
  (z_tuple:Gn K mainGlobals "tuple" = some none)
  (z_sorted:Gn K mainGlobals "sorted" = some none)
  (z_set:Gn K mainGlobals "set" = some none)
  (z_dict:Gn K mainGlobals "dict" = some none)
  (z_min:Gn K mainGlobals "min" = some none)
  (z_max:Gn K mainGlobals "max" = some none)
  (z_range:Gn K mainGlobals "range" = some none)
  (z_list:Gn K mainGlobals "list" = some none)
  (z_int:Gn K mainGlobals "int" = some none)
  (gA:Gn K mainGlobals "ALL" = some (some (.ref aA))) (lA:K.lookup aA=some ⟨.type "tuple",dcA,.seq #[.none,.none] nA,slA⟩)
  (g_MOST_TO_LEAD:Gn K mainGlobals "MOST_TO_LEAD" = some (some (.int 60 tk_MOST_TO_LEAD)))
  (gE:Gn K mainGlobals "END_PARTS" = some (some (.ref aE))) (lE:K.lookup aE=some ⟨.type "dict",none,.dict #[⟨hsE0,.str "stop" tkE0,.ref s0⟩,⟨hsE1,.str "go" tkE1,.ref s1⟩,⟨hsE2,.str "less" tkE2,.ref s2⟩,⟨hsE3,.str "is" tkE3,.ref s3⟩] epE,#[]⟩) (qE0:K.lookup s0=some ⟨.type "tuple",dcE0,.seq #[] nnE0,slE0⟩) (qE1:K.lookup s1=some ⟨.type "tuple",dcE1,.seq #[.str "piece" ttE1_0] nnE1,slE1⟩) (qE2:K.lookup s2=some ⟨.type "tuple",dcE2,.seq #[.str "name" ttE2_0,.str "number" ttE2_1,.str "piece" ttE2_2,.str "piece" ttE2_3] nnE2,slE2⟩) (qE3:K.lookup s3=some ⟨.type "tuple",dcE3,.seq #[.str "name" ttE3_0,.str "number" ttE3_1,.str "piece" ttE3_2,.str "piece" ttE3_3] nnE3,slE3⟩)
  (gD:Gn K mainGlobals "DEED_PARTS" = some (some (.ref aD))) (lD:K.lookup aD=some ⟨.type "dict",none,.dict #[⟨hsD0,.str "put" tkD0,.ref d0⟩,⟨hsD1,.str "copy" tkD1,.ref d1⟩,⟨hsD2,.str "add" tkD2,.ref d2⟩,⟨hsD3,.str "read" tkD3,.ref d3⟩,⟨hsD4,.str "tell" tkD4,.ref d4⟩] epD,#[]⟩) (qD0:K.lookup d0=some ⟨.type "tuple",dcD0,.seq #[.str "name" ttD0_0,.str "number" ttD0_1] nnD0,slD0⟩) (qD1:K.lookup d1=some ⟨.type "tuple",dcD1,.seq #[.str "name" ttD1_0,.str "name" ttD1_1] nnD1,slD1⟩) (qD2:K.lookup d2=some ⟨.type "tuple",dcD2,.seq #[.str "name" ttD2_0,.str "number" ttD2_1] nnD2,slD2⟩) (qD3:K.lookup d3=some ⟨.type "tuple",dcD3,.seq #[.str "name" ttD3_0] nnD3,slD3⟩) (qD4:K.lookup d4=some ⟨.type "tuple",dcD4,.seq #[.str "name" ttD4_0] nnD4,slD4⟩)
  (aCC:Gn K mainGlobals "Stand" = some (some (.ref C))) (pgC:HE K C Str.empty=true) (hdC:HQ K C=true) (poC:Ik K C=true) (saC:GG K (.ref C) "__setattr__" = some (some (.builtin "object.__setattr__"))) (mkC:Il K C=true) (kcC:Gj K (.ref C)=true)
  (nC_pieces:GG K (.ref C) "pieces" = some none)
  (nC_passed:GG K (.ref C) "passed" = some none)
  (nC_place:GG K (.ref C) "place" = some none)
  (nC_worths:GG K (.ref C) "worths" = some none)
  (nC_numbers:GG K (.ref C) "numbers" = some none)
  (nC_taken:GG K (.ref C) "taken" = some none)
  (nC_spoken:GG K (.ref C) "spoken" = some none)
  (nC_over:GG K (.ref C) "over" = some none)
  (aCCR:Gn K mainGlobals "Row" = some (some (.ref CR))) (pgCR:HE K CR Str.empty=true) (hdCR:HQ K CR=true) (poCR:Ik K CR=true) (saCR:GG K (.ref CR) "__setattr__" = some (some (.builtin "object.__setattr__"))) (mkCR:Il K CR=true) (kcCR:Gj K (.ref CR)=true)
  (nCR_members:GG K (.ref CR) "members" = some none)
  (nCR_places:GG K (.ref CR) "places" = some none) :
  ∃fd:FuncData,(∀(s:Shared) (v:Value),BindsTo s fd ⟨[v],[]⟩ [("script",v)])/\∀base:Heap,K.In base->base.Ns mainGlobals mg->bh l.prog w K mg base bQ 11 fa fd ["script"] (uu K):=by
 have e:=hfa.symm.trans (Gv X G a58)
 cases e
 have Z:Bl mg:=⟨He X G z_len,He X G z_zip,He X G z_tuple,He X G z_sorted,He X G z_set,He X G z_dict,He X G z_min,He X G z_max,He X G z_range,He X G z_list,He X G z_int⟩
 have GA:jF K mg aA:=⟨Gv X G gA,_,_,_,lA⟩
 have G_MOST_TO_LEAD:mg "MOST_TO_LEAD" = some (.int 60 tk_MOST_TO_LEAD):=Gv X G g_MOST_TO_LEAD
 have GE:vg K mg aE s0 s1 s2 s3:=⟨⟨Gv X G gE,_,_,lE,(.cons rfl rfl (.cons rfl rfl (.cons rfl rfl (.cons rfl rfl .nil))))⟩,⟨_,_,_,qE0,rfl,rfl,(by show 0<=sizeLine;decide),.nil⟩,⟨_,_,_,qE1,rfl,rfl,(by show 1<=sizeLine;decide),(.cons ⟨_,rfl⟩ .nil)⟩,⟨_,_,_,qE2,rfl,rfl,(by show 4<=sizeLine;decide),(.cons ⟨_,rfl⟩ (.cons ⟨_,rfl⟩ (.cons ⟨_,rfl⟩ (.cons ⟨_,rfl⟩ .nil))))⟩,⟨_,_,_,qE3,rfl,rfl,(by show 4<=sizeLine;decide),(.cons ⟨_,rfl⟩ (.cons ⟨_,rfl⟩ (.cons ⟨_,rfl⟩ (.cons ⟨_,rfl⟩ .nil))))⟩⟩
 have GD:uv K mg aD d0 d1 d2 d3 d4:=⟨⟨Gv X G gD,_,_,lD,(.cons rfl rfl (.cons rfl rfl (.cons rfl rfl (.cons rfl rfl (.cons rfl rfl .nil)))))⟩,⟨_,_,_,qD0,rfl,rfl,(by show 2<=sizeLine;decide),(.cons ⟨_,rfl⟩ (.cons ⟨_,rfl⟩ .nil))⟩,⟨_,_,_,qD1,rfl,rfl,(by show 2<=sizeLine;decide),(.cons ⟨_,rfl⟩ (.cons ⟨_,rfl⟩ .nil))⟩,⟨_,_,_,qD2,rfl,rfl,(by show 2<=sizeLine;decide),(.cons ⟨_,rfl⟩ (.cons ⟨_,rfl⟩ .nil))⟩,⟨_,_,_,qD3,rfl,rfl,(by show 1<=sizeLine;decide),(.cons ⟨_,rfl⟩ .nil)⟩,⟨_,_,_,qD4,rfl,rfl,(by show 1<=sizeLine;decide),(.cons ⟨_,rfl⟩ .nil)⟩⟩
 have T:lN K C:=⟨⟨pgC,hdC,poC,saC⟩,nC_pieces,nC_passed,nC_place,nC_worths,nC_numbers,nC_taken,nC_spoken,nC_over⟩
 have TR:sg K CR:=⟨⟨pgCR,hdCR,poCR,saCR⟩,nCR_members,nCR_places⟩
 have F0:=ba (st:=d6) l0 c0 k0
 have b0:=F0.binds (ps:=["thing", "kinds", "wanted"]) fun _ _ _ _ _ _ us hl=>match us,hl with | [_,_,_],_=>rfl
 have F1:=ba (st:=iC) l1 c1 k1
 have b1:=F1.binds (ps:=["end"]) fun _ _ _ _ _ _ us hl=>match us,hl with | [_],_=>rfl
 have F2:=ba (st:=eJ) l2 c2 k2
 have b2:=F2.binds (ps:=["end"]) fun _ _ _ _ _ _ us hl=>match us,hl with | [_],_=>rfl
 have F3:=ba (st:=hJ) l3 c3 k3
 have b3:=F3.binds (ps:=["plan"]) fun _ _ _ _ _ _ us hl=>match us,hl with | [_],_=>rfl
 have F4:=ba (st:=iD) l4 c4 k4
 have b4:=F4.binds (ps:=["number", "stretch"]) fun _ _ _ _ _ _ us hl=>match us,hl with | [_,_],_=>rfl
 have F5:=ba (st:=fN) l5 c5 k5
 have b5:=F5.binds (ps:=["stretch", "number"]) fun _ _ _ _ _ _ us hl=>match us,hl with | [_,_],_=>rfl
 have F6:=ba (st:=gh) l6 c6 k6
 have b6:=F6.binds (ps:=["stretch", "number"]) fun _ _ _ _ _ _ us hl=>match us,hl with | [_,_],_=>rfl
 have F7:=ba (st:=iE) l7 c7 k7
 have b7:=F7.binds (ps:=["stretch", "number"]) fun _ _ _ _ _ _ us hl=>match us,hl with | [_,_],_=>rfl
 have F8:=ba (st:=fj) l8 c8 k8
 have b8:=F8.binds (ps:=["stretch", "number"]) fun _ _ _ _ _ _ us hl=>match us,hl with | [_,_],_=>rfl
 have F9:=ba (st:=iF) l9 c9 k9
 have b9:=F9.binds (ps:=["stretch", "word", "number", "side"]) fun _ _ _ _ _ _ us hl=>match us,hl with | [_,_,_,_],_=>rfl
 have F10:=ba (st:=hR) l10 c10 k10
 have b10:=F10.binds (ps:=["stretches"]) fun _ _ _ _ _ _ us hl=>match us,hl with | [_],_=>rfl
 have F11:=ba (st:=jZ) l11 c11 k11
 have b11:=F11.binds (ps:=["facts", "name"]) fun _ _ _ _ _ _ us hl=>match us,hl with | [_,_],_=>rfl
 have F12:=ba (st:=fO) l12 c12 k12
 have b12:=F12.binds (ps:=["facts", "name", "stretch"]) fun _ _ _ _ _ _ us hl=>match us,hl with | [_,_,_],_=>rfl
 have F13:=ba (st:=j0) l13 c13 k13
 have b13:=F13.binds (ps:=["stretch", "number"]) fun _ _ _ _ _ _ us hl=>match us,hl with | [_,_],_=>rfl
 have F14:=ba (st:=dG) l14 c14 k14
 have b14:=F14.binds (ps:=["stretches", "deed"]) fun _ _ _ _ _ _ us hl=>match us,hl with | [_,_],_=>rfl
 have F15:=ba (st:=jc) l15 c15 k15
 have b15:=F15.binds (ps:=["facts", "deeds"]) fun _ _ _ _ _ _ us hl=>match us,hl with | [_,_],_=>rfl
 have F16:=ba (st:=eM) l16 c16 k16
 have b16:=F16.binds (ps:=["facts", "end"]) fun _ _ _ _ _ _ us hl=>match us,hl with | [_,_],_=>rfl
 have F17:=ba (st:=j1) l17 c17 k17
 have b17:=F17.binds (ps:=["facts", "end"]) fun _ _ _ _ _ _ us hl=>match us,hl with | [_,_],_=>rfl
 have F18:=ba (st:=j2) l18 c18 k18
 have b18:=F18.binds (ps:=["plan"]) fun _ _ _ _ _ _ us hl=>match us,hl with | [_],_=>rfl
 have F19:=ba (st:=eN) l19 c19 k19
 have b19:=F19.binds (ps:=["self", "first"]) fun _ _ _ _ _ _ us hl=>match us,hl with | [_,_],_=>rfl
 have F20:=ba (st:=eO) l20 c20 k20
 have b20:=F20.binds (ps:=["self", "thing"]) fun _ _ _ _ _ _ us hl=>match us,hl with | [_,_],_=>rfl
 have F21:=ba (st:=iG) l21 c21 k21
 have b21:=F21.binds (ps:=["plan"]) fun _ _ _ _ _ _ us hl=>match us,hl with | [_],_=>rfl
 have F22:=ba (st:=j3) l22 c22 k22
 have b22:=F22.binds (ps:=["plan"]) fun _ _ _ _ _ _ us hl=>match us,hl with | [_],_=>rfl
 have F23:=ba (st:=hU) l23 c23 k23
 have b23:=F23.binds (ps:=["lead", "tops", "places", "most"]) fun _ _ _ _ _ _ us hl=>match us,hl with | [_,_,_,_],_=>rfl
 have F24:=ba (st:=jd) l24 c24 k24
 have b24:=F24.binds (ps:=["end", "ways"]) fun _ _ _ _ _ _ us hl=>match us,hl with | [_,_],_=>rfl
 have F25:=ba (st:=hV) l25 c25 k25
 have b25:=F25.binds (ps:=["plan", "most"]) fun _ _ _ _ _ _ us hl=>match us,hl with | [_,_],_=>rfl
 have F26:=ba (st:=fk) l26 c26 k26
 have b26:=F26.binds (ps:=["plan", "steads"]) fun _ _ _ _ _ _ us hl=>match us,hl with | [_,_],_=>rfl
 have F27:=ba (st:=iH) l27 c27 k27
 have b27:=F27.binds (ps:=["piece"]) fun _ _ _ _ _ _ us hl=>match us,hl with | [_],_=>rfl
 have F28:=ba (st:=hX) l28 c28 k28
 have b28:=F28.binds (ps:=["plan", "at"]) fun _ _ _ _ _ _ us hl=>match us,hl with | [_,_],_=>rfl
 have F29:=ba (st:=j4) l29 c29 k29
 have b29:=F29.binds (ps:=["plan"]) fun _ _ _ _ _ _ us hl=>match us,hl with | [_],_=>rfl
 have F30:=ba (st:=gm) l30 c30 k30
 have b30:=F30.binds (ps:=["stretch", "word", "number"]) fun _ _ _ _ _ _ us hl=>match us,hl with | [_,_,_],_=>rfl
 have F31:=ba (st:=fm) l31 c31 k31
 have b31:=F31.binds (ps:=["self", "name"]) fun _ _ _ _ _ _ us hl=>match us,hl with | [_,_],_=>rfl
 have F32:=ba (st:=eS) l32 c32 k32
 have b32:=F32.binds (ps:=["self"]) fun _ _ _ _ _ _ us hl=>match us,hl with | [_],_=>rfl
 have F33:=ba (st:=cO) l33 c33 k33
 have b33:=F33.binds (ps:=["self"]) fun _ _ _ _ _ _ us hl=>match us,hl with | [_],_=>rfl
 have F34:=ba (st:=d7) l34 c34 k34
 have b34:=F34.binds (ps:=["self"]) fun _ _ _ _ _ _ us hl=>match us,hl with | [_],_=>rfl
 have F35:=ba (st:=cS) l35 c35 k35
 have b35:=F35.binds (ps:=["self"]) fun _ _ _ _ _ _ us hl=>match us,hl with | [_],_=>rfl
 have F36:=ba (st:=d8) l36 c36 k36
 have b36:=F36.binds (ps:=["self", "deed"]) fun _ _ _ _ _ _ us hl=>match us,hl with | [_,_],_=>rfl
 have F37:=ba (st:=d9) l37 c37 k37
 have b37:=F37.binds (ps:=["self", "piece"]) fun _ _ _ _ _ _ us hl=>match us,hl with | [_,_],_=>rfl
 have F38:=ba (st:=eT) l38 c38 k38
 have b38:=F38.binds (ps:=["self", "end"]) fun _ _ _ _ _ _ us hl=>match us,hl with | [_,_],_=>rfl
 have F39:=ba (st:=eh) l39 c39 k39
 have b39:=F39.binds (ps:=["self"]) fun _ _ _ _ _ _ us hl=>match us,hl with | [_],_=>rfl
 have F40:=ba (st:=dH) l40 c40 k40
 have b40:=F40.binds (ps:=["self", "pieces", "begin", "worths", "numbers"]) fun _ _ _ _ _ _ us hl=>match us,hl with | [_,_,_,_,_],_=>rfl
 have F41:=ba (st:=j5) l41 c41 k41
 have b41:=F41.binds (ps:=["stand", "steps"]) fun _ _ _ _ _ _ us hl=>match us,hl with | [_,_],_=>rfl
 have F42:=ba (st:=je) l42 c42 k42
 have b42:=F42.binds (ps:=["plan", "piece", "worths", "numbers", "steps"]) fun _ _ _ _ _ _ us hl=>match us,hl with | [_,_,_,_,_],_=>rfl
 have F43:=ba (st:=oy) l43 c43 k43
 have b43:=F43.binds (ps:=["plan", "numbers", "steps"]) fun _ _ _ _ _ _ us hl=>match us,hl with | [_,_,_],_=>rfl
 have F44:=ba (st:=iI) l44 c44 k44
 have b44:=F44.binds (ps:=["script", "k"]) fun _ _ _ _ _ _ us hl=>match us,hl with | [_,_],_=>rfl
 have F45:=ba (st:=hZ) l45 c45 k45
 have b45:=F45.binds (ps:=["bag", "many"]) fun _ _ _ _ _ _ us hl=>match us,hl with | [_,_],_=>rfl
 have F46:=ba (st:=gn) l46 c46 k46
 have b46:=F46.binds (ps:=["bag"]) fun _ _ _ _ _ _ us hl=>match us,hl with | [_],_=>rfl
 have F47:=ba (st:=fP) l47 c47 k47
 have b47:=F47.binds (ps:=["bag"]) fun _ _ _ _ _ _ us hl=>match us,hl with | [_],_=>rfl
 have F48:=ba (st:=ia) l48 c48 k48
 have b48:=F48.binds (ps:=["bag", "names"]) fun _ _ _ _ _ _ us hl=>match us,hl with | [_,_],_=>rfl
 have F49:=ba (st:=iJ) l49 c49 k49
 have b49:=F49.binds (ps:=["bag", "names", "count"]) fun _ _ _ _ _ _ us hl=>match us,hl with | [_,_,_],_=>rfl
 have F50:=ba (st:=ib) l50 c50 k50
 have b50:=F50.binds (ps:=["bag", "count", "most"]) fun _ _ _ _ _ _ us hl=>match us,hl with | [_,_,_],_=>rfl
 have F51:=ba (st:=gu) l51 c51 k51
 have b51:=F51.binds (ps:=["bag", "most"]) fun _ _ _ _ _ _ us hl=>match us,hl with | [_,_],_=>rfl
 have F52:=ba (st:=ic) l52 c52 k52
 have b52:=F52.binds (ps:=["plan", "state", "numbers"]) fun _ _ _ _ _ _ us hl=>match us,hl with | [_,_,_],_=>rfl
 have F53:=ba (st:=ie) l53 c53 k53
 have b53:=F53.binds (ps:=["plan", "numbers", "steps"]) fun _ _ _ _ _ _ us hl=>match us,hl with | [_,_,_],_=>rfl
 have F54:=ba (st:=gx) l54 c54 k54
 have b54:=F54.binds (ps:=["bag"]) fun _ _ _ _ _ _ us hl=>match us,hl with | [_],_=>rfl
 have F55:=ba (st:=er) l55 c55 k55
 have b55:=F55.binds (ps:=["bag", "count"]) fun _ _ _ _ _ _ us hl=>match us,hl with | [_,_],_=>rfl
 have F56:=ba (st:=ig) l56 c56 k56
 have b56:=F56.binds (ps:=["plan", "numbers", "steps"]) fun _ _ _ _ _ _ us hl=>match us,hl with | [_,_,_],_=>rfl
 have F57:=ba (st:=gy) l57 c57 k57
 have b57:=F57.binds (ps:=["plan", "less", "numbers", "steps"]) fun _ _ _ _ _ _ us hl=>match us,hl with | [_,_,_,_],_=>rfl
 have F58:=ba (st:=jV) l58 c58 k58
 refine⟨Gk "law" "law" (aL jV) (aJ jV) (au jV) .none kV58 dc58 pm58 an58 cd58 ct58,fun s v=>.of_eq rfl,fun base _ _=>?_⟩
 have O_parts_of_kind:Own l.prog w K mg base "parts_of_kind" 1 ["thing", "kinds", "wanted"] (oo K):=⟨⟨_,_,pY F0 Z ,Gv X G a0,k0,b0⟩⟩
 have O_ways_on:Own l.prog w K mg base "ways_on" 3 ["end"] jv:=⟨⟨_,_,yK F1 Z GE O_parts_of_kind,Gv X G a1,k1,b1⟩⟩
 have O_without_ways:Own l.prog w K mg base "without_ways" 4 ["end"] kU:=⟨⟨_,_,qX F2 Z O_ways_on,Gv X G a2,k2,b2⟩⟩
 have O_names_of:Own l.prog w K mg base "names_of" 3 ["plan"] nK:=⟨⟨_,_,wq F3 Z GD GE O_parts_of_kind,Gv X G a3,k3,b3⟩⟩
 have O_lies_in:Own l.prog w K mg base "lies_in" 1 ["number", "stretch"] (sr K):=⟨⟨_,_,yL F4 Z ,Gv X G a4,k4,b4⟩⟩
 have O_part_below:Own l.prog w K mg base "part_below" 1 ["stretch", "number"] (jH K gc):=⟨⟨_,_,ui F5 Z ,Gv X G a5,k5,b5⟩⟩
 have O_part_from:Own l.prog w K mg base "part_from" 1 ["stretch", "number"] (jH K gX):=⟨⟨_,_,vT F6 Z ,Gv X G a6,k6,b6⟩⟩
 have O_part_at:Own l.prog w K mg base "part_at" 2 ["stretch", "number"] (jH K nv):=⟨⟨_,_,yM F7 Z O_lies_in,Gv X G a7,k7,b7⟩⟩
 have O_part_beside:Own l.prog w K mg base "part_beside" 1 ["stretch", "number"] (jH K iy):=⟨⟨_,_,sL F8 Z ,Gv X G a8,k8,b8⟩⟩
 have O_part_of:Own l.prog w K mg base "part_of" 3 ["stretch", "word", "number", "side"] (ox K):=⟨⟨_,_,yN F9 Z O_part_below O_part_from O_part_at O_part_beside,Gv X G a9,k9,b9⟩⟩
 have O_facts_of:Own l.prog w K mg base "facts_of" 1 ["stretches"] (kQ aA):=⟨⟨_,_,wu F10 Z GA ,Gv X G a10,k10,b10⟩⟩
 have O_known:Own l.prog w K mg base "known" 1 ["facts", "name"] (so aA):=⟨⟨_,_,BI F11 Z GA ,Gv X G a11,k11,b11⟩⟩
 have O_with_known:Own l.prog w K mg base "with_known" 2 ["facts", "name", "stretch"] (lu aA):=⟨⟨_,_,uj F12 Z GA O_facts_of,Gv X G a12,k12,b12⟩⟩
 have O_moved:Own l.prog w K mg base "moved" 1 ["stretch", "number"] (sf K):=⟨⟨_,_,BJ F13 Z ,Gv X G a13,k13,b13⟩⟩
 have O_stretch_behind:Own l.prog w K mg base "stretch_behind" 2 ["stretches", "deed"] (mw aA):=⟨⟨_,_,oC F14 Z GA O_moved,Gv X G a14,k14,b14⟩⟩
 have O_behind:Own l.prog w K mg base "behind" 3 ["facts", "deeds"] pM:=⟨⟨_,_,Ak F15 Z GA O_stretch_behind O_facts_of,Gv X G a15,k15,b15⟩⟩
 have O_known_beyond:Own l.prog w K mg base "known_beyond" 4 ["facts", "end"] (pP aA):=⟨⟨_,_,qY F16 Z GA O_ways_on O_known O_part_of O_with_known,Gv X G a16,k16,b16⟩⟩
 have O_leads:Own l.prog w K mg base "leads" 5 ["facts", "end"] (sx aA):=⟨⟨_,_,BK F17 Z O_known_beyond O_ways_on,Gv X G a17,k17,b17⟩⟩
 have O_start:Own l.prog w K mg base "start" 4 ["plan"] sy:=⟨⟨_,_,BL F18 Z O_names_of,Gv X G a18,k18,b18⟩⟩
 have O_Row___init__:rO l.prog w K mg base CR "Row" 1 ["self", "first"] (tZ (jS l.prog w CR) (kR CR)):=⟨⟨_,_,qZ F19 Z TR ,⟨mkCR,a19,i19,kcCR⟩,Gv X G aCCR,b19⟩⟩
 have O_Row_place_of:eE l.prog w K mg base CR "place_of" 1 ["self", "thing"] (tZ (jT l.prog w CR) (kS CR)):=⟨TR.cl,⟨_,_,q8 F20 Z TR ,⟨a20,i20,k20⟩,b20⟩⟩
 have O_reached:Own l.prog w K mg base "reached" 4 ["plan"] nT:=⟨⟨_,_,yO F21 Z O_ways_on,Gv X G a21,k21,b21⟩⟩
 have O_heads:Own l.prog w K mg base "heads" 5 ["plan"] sA:=⟨⟨_,_,BM F22 Z O_reached O_ways_on,Gv X G a22,k22,b22⟩⟩
 have O_copy_for:Own l.prog w K mg base "copy_for" 1 ["lead", "tops", "places", "most"] (nV l.prog w):=⟨⟨_,_,wx F23 Z ,Gv X G a23,k23,b23⟩⟩
 have O_end_to:Own l.prog w K mg base "end_to" 5 ["end", "ways"] sC:=⟨⟨_,_,Al F24 Z O_without_ways,Gv X G a24,k24,b24⟩⟩
 have O_led_past:Own l.prog w K mg base "led_past" 7 ["plan", "most"] (nX l.prog w CR):=⟨⟨_,_,wy F25 Z G_MOST_TO_LEAD TR O_heads O_start O_Row___init__ O_Row_place_of O_behind O_leads O_copy_for O_end_to,Gv X G a25,k25,b25⟩⟩
 have O_with_steads:Own l.prog w K mg base "with_steads" 5 ["plan", "steads"] pO:=⟨⟨_,_,sM F26 Z TR O_Row___init__ O_Row_place_of O_ways_on O_without_ways,Gv X G a26,k26,b26⟩⟩
 have O_is_idle:Own l.prog w K mg base "is_idle" 1 ["piece"] vC:=⟨⟨_,_,yP F27 Z ,Gv X G a27,k27,b27⟩⟩
 have O_followed:Own l.prog w K mg base "followed" 3 ["plan", "at"] mC:=⟨⟨_,_,wz F28 Z O_is_idle,Gv X G a28,k28,b28⟩⟩
 have O_short:Own l.prog w K mg base "short" 6 ["plan"] sj:=⟨⟨_,_,BN F29 Z O_followed O_with_steads,Gv X G a29,k29,b29⟩⟩
 have O_answer_of:Own l.prog w K mg base "answer_of" 4 ["stretch", "word", "number"] yc:=⟨⟨_,_,vU F30 Z O_part_of,Gv X G a30,k30,b30⟩⟩
 have O_Stand_worth:eE l.prog w K mg base C "worth" 1 ["self", "name"] (oi C):=⟨T.cl,⟨_,_,sN F31 Z T ,⟨a31,i31,k31⟩,b31⟩⟩
 have O_Stand_coming:eE l.prog w K mg base C "coming" 1 ["self"] (pC C):=⟨T.cl,⟨_,_,q9 F32 Z T ,⟨a32,i32,k32⟩,b32⟩⟩
 have O_Stand_lacks_number:eE l.prog w K mg base C "lacks_number" 2 ["self"] (rS C):=⟨T.cl,⟨_,_,lY F33 Z T O_Stand_coming,⟨a33,i33,k33⟩,b33⟩⟩
 have O_Stand_is_held:eE l.prog w K mg base C "is_held" 3 ["self"] (va C):=⟨T.cl,⟨_,_,pZ F34 Z T O_Stand_lacks_number,⟨a34,i34,k34⟩,b34⟩⟩
 have O_Stand_take_number:eE l.prog w K mg base C "take_number" 1 ["self"] (rT C):=⟨T.cl,⟨_,_,mO F35 Z T ,⟨a35,i35,k35⟩,b35⟩⟩
 have O_Stand_do_deed:eE l.prog w K mg base C "do_deed" 2 ["self", "deed"] (pD C):=⟨T.cl,⟨_,_,p4 F36 Z T O_Stand_worth O_Stand_take_number,⟨a36,i36,k36⟩,b36⟩⟩
 have O_Stand_come_to:eE l.prog w K mg base C "come_to" 1 ["self", "piece"] (u9 C):=⟨T.cl,⟨_,_,p5 F37 Z T ,⟨a37,i37,k37⟩,b37⟩⟩
 have O_Stand_do_end:eE l.prog w K mg base C "do_end" 5 ["self", "end"] (rV C):=⟨T.cl,⟨_,_,rh F38 Z T O_Stand_worth O_Stand_come_to O_answer_of,⟨a38,i38,k38⟩,b38⟩⟩
 have O_Stand_do_step:eE l.prog w K mg base C "do_step" 6 ["self"] (pE C):=⟨T.cl,⟨_,_,p6 F39 Z T O_Stand_do_deed O_Stand_do_end,⟨a39,i39,k39⟩,b39⟩⟩
 have O_Stand___init__:rO l.prog w K mg base C "Stand" 1 ["self", "pieces", "begin", "worths", "numbers"] (rX C):=⟨⟨_,_,oE F40 Z T ,⟨mkC,a40,i40,kcC⟩,Gv X G aCC,b40⟩⟩
 have O_go_on:Own l.prog w K mg base "go_on" 7 ["stand", "steps"] (vb C):=⟨⟨_,_,BO F41 Z T O_Stand_is_held O_Stand_do_step,Gv X G a41,k41,b41⟩⟩
 have O_run_at:Own l.prog w K mg base "run_at" 8 ["plan", "piece", "worths", "numbers", "steps"] rY:=⟨⟨_,_,Am F42 Z T O_Stand___init__ O_go_on,Gv X G a42,k42,b42⟩⟩
 have O_run:Own l.prog w K mg base "run" 9 ["plan", "numbers", "steps"] yj:=⟨⟨_,_,En F43 Z O_run_at,Gv X G a43,k43,b43⟩⟩
 have O_law_bag:Own l.prog w K mg base "_law_bag" 1 ["script", "k"] (xZ K):=⟨⟨_,_,yQ F44 Z ,Gv X G a44,k44,b44⟩⟩
 have O_law_take:Own l.prog w K mg base "_law_take" 1 ["bag", "many"] gI:=⟨⟨_,_,wA F45 Z ,Gv X G a45,k45,b45⟩⟩
 have O_law_names:Own l.prog w K mg base "_law_names" 2 ["bag"] rJ:=⟨⟨_,_,vV F46 Z O_law_take,Gv X G a46,k46,b46⟩⟩
 have O_law_number:Own l.prog w K mg base "_law_number" 2 ["bag"] ko:=⟨⟨_,_,uk F47 Z O_law_take,Gv X G a47,k47,b47⟩⟩
 have O_law_deed:Own l.prog w K mg base "_law_deed" 3 ["bag", "names"] uS:=⟨⟨_,_,wB F48 Z O_law_take O_law_number,Gv X G a48,k48,b48⟩⟩
 have O_law_end:Own l.prog w K mg base "_law_end" 3 ["bag", "names", "count"] uT:=⟨⟨_,_,yR F49 Z O_law_take O_law_number,Gv X G a49,k49,b49⟩⟩
 have O_law_plan:Own l.prog w K mg base "_law_plan" 4 ["bag", "count", "most"] uU:=⟨⟨_,_,wC F50 Z O_law_take O_law_names O_law_deed O_law_end,Gv X G a50,k50,b50⟩⟩
 have O_law_count:Own l.prog w K mg base "_law_count" 2 ["bag", "most"] rK:=⟨⟨_,_,vW F51 Z O_law_take,Gv X G a51,k51,b51⟩⟩
 have O_law_step:Own l.prog w K mg base "_law_step" 1 ["plan", "state", "numbers"] sG:=⟨⟨_,_,wF F52 Z ,Gv X G a52,k52,b52⟩⟩
 have O_law_walk:Own l.prog w K mg base "_law_walk" 2 ["plan", "numbers", "steps"] sH:=⟨⟨_,_,wG F53 Z O_law_step,Gv X G a53,k53,b53⟩⟩
 have O_law_input:Own l.prog w K mg base "_law_input" 3 ["bag"] pF:=⟨⟨_,_,vX F54 Z O_law_take O_law_number,Gv X G a54,k54,b54⟩⟩
 have O_law_idle_plan:Own l.prog w K mg base "_law_idle_plan" 8 ["bag", "count"] mD:=⟨⟨_,_,p7 F55 Z O_law_plan O_law_take,Gv X G a55,k55,b55⟩⟩
 have O_law_told:Own l.prog w K mg base "_law_told" 3 ["plan", "numbers", "steps"] sI:=⟨⟨_,_,wH F56 Z O_law_walk,Gv X G a56,k56,b56⟩⟩
 have O_law_right:Own l.prog w K mg base "_law_right" 10 ["plan", "less", "numbers", "steps"] pS:=⟨⟨_,_,vY F57 Z O_law_told O_run,Gv X G a57,k57,b57⟩⟩
 exact Eo F58 Z TR O_law_bag O_law_take O_law_count O_law_idle_plan O_led_past O_short O_law_input O_law_right
theorem walk {l:PySem.W.OpenLaw}{q:Program}{loose:List Str}{XP:(Str->Option Value)->Heap->Prop}{YP:World->Heap->Prop}{d:DefRec}{K:Params->Gh}(hn:l.most=some 63)(hdf:d.params.defaults=[])
  (hY:∀(w:World) (h:Heap),YP w h->(K w.params).In h)
  (F:∀(w:World) (mg:Str->Option Value) (fa:Addr) (h:Heap),(K w.params).In h->h.Ns mainGlobals mg->mg d.name=some (.ref fa) ->
   ∃fd:FuncData,(∀(s:Shared) (u:Value),BindsTo s fd ⟨[u],[]⟩ [("script",u)])/\∀base:Heap,(K w.params).In base->base.Ns mainGlobals mg->bh l.prog w (K w.params) mg base bQ 11 fa fd ["script"] (uu (K w.params))) :
  PySem.W.WalkO q loose XP YP l.row.toRowW d [] (fun f vs=>PySem.call f vs) :=
 L2.CJ (n:=63) (k:=11) (x := "script") (CX:=fun _=>bQ) (sp:=fun w=>uu (K w.params)) hn (by decide) hdf ⟨rfl,by decide,by decide⟩ hY F (fun _ _ a ns hl _ hS=>⟨a,ns,rfl,hS,hl,fun _=>rfl⟩) fun _ _ _ _ _ z=>z
end My
theorem PySem.W.Fast.tw2712444862591690701:True:=trivial
theorem PySem.W.Fast.tw15260768219471149085:True:=trivial
theorem PySem.W.Fast.tw825284154522232708:True:=trivial
theorem PySem.W.Fast.tw6029762392540511423:True:=trivial
theorem PySem.W.Fast.tw15073975950313083960:True:=trivial
theorem PySem.W.Fast.tw2772788165217597684:True:=trivial
theorem PySem.W.Fast.tw5163569251500386145:True:=trivial
theorem PySem.W.Fast.tw6288312719094657316:True:=trivial
theorem PySem.W.Fast.tw13975836802212071024:True:=trivial
theorem PySem.W.Fast.tw5529870857678661309:True:=trivial
theorem PySem.W.Fast.tw14030470116393806155:True:=trivial
theorem PySem.W.Fast.tw2929672266783595788:True:=trivial
theorem PySem.W.Fast.tw5447858271322798785:True:=trivial
theorem PySem.W.Fast.tw10180243780348685266:True:=trivial
theorem PySem.W.Fast.tw3085668866059418854:True:=trivial
theorem PySem.W.Fast.tw15092933822565101495:True:=trivial
theorem PySem.W.Fast.tw12204105484696170623:True:=trivial
theorem PySem.W.Fast.tw16642628871279859528:True:=trivial
theorem PySem.W.Fast.tw3165532070686869754:True:=trivial
theorem PySem.W.Fast.tw17568441575720583777:True:=trivial
theorem PySem.W.Fast.tw16598996564777191306:True:=trivial
theorem PySem.W.Fast.tw598258463604429389:True:=trivial
theorem PySem.W.Fast.tw16103510492077020286:True:=trivial
theorem PySem.W.Fast.tw8919465802646314372:True:=trivial
theorem PySem.W.Fast.tw5473463624599878925:True:=trivial
theorem PySem.W.Fast.tw2944349037436044764:True:=trivial
theorem PySem.W.Fast.tw15110206168823921966:True:=trivial
theorem PySem.W.Fast.tw3066030036981333655:True:=trivial
theorem PySem.W.Fast.tw13386359844347247873:True:=trivial
theorem PySem.W.Fast.tw6287084413988476815:True:=trivial
theorem PySem.W.Fast.tw12317385797887146880:True:=trivial
theorem PySem.W.Fast.tw17345463496748757889:True:=trivial
theorem PySem.W.Fast.tw11109651403757387171:True:=trivial
theorem PySem.W.Fast.tw3797965266406555932:True:=trivial
theorem PySem.W.Fast.tw3698594737018376752:True:=trivial
theorem PySem.W.Fast.tw18269204787272499437:True:=trivial
theorem PySem.W.Fast.tw888897706966044846:True:=trivial
theorem PySem.W.Fast.tw17413121439982197434:True:=trivial
theorem PySem.W.Fast.tw10677771103819763408:True:=trivial
theorem PySem.W.Fast.tw6689308747474448702:True:=trivial
theorem PySem.W.Fast.tw14685633778665403129:True:=trivial
theorem PySem.W.Fast.tw8180124691682409216:True:=trivial
theorem PySem.W.Fast.tw4960294220494563056:True:=trivial
theorem PySem.W.Fast.tw4093868780541731001:True:=trivial
theorem PySem.W.Fast.tw8669375762450858043:True:=trivial
theorem PySem.W.Fast.tw17899690884620740998:True:=trivial
theorem PySem.W.Fast.tw13789327820409500772:True:=trivial
theorem PySem.W.Fast.tw15694368944276124735:True:=trivial
theorem PySem.W.Fast.tw1892145680907965653:True:=trivial
theorem PySem.W.Fast.tw14240207431900039344:True:=trivial
theorem PySem.W.Fast.tw2541816577545972037:True:=trivial
theorem PySem.W.Fast.tw15838618605070136927:True:=trivial
theorem PySem.W.Fast.tw10435447105976448824:True:=trivial
theorem PySem.W.Fast.tw7800109789323981980:True:=trivial
theorem PySem.W.Fast.tw10345619767049687815:True:=trivial
theorem PySem.W.Fast.tw2685042816986635982:True:=trivial
theorem PySem.W.Fast.tw2074391079652795268:True:=trivial
theorem PySem.W.Fast.tw15453876327239378505:True:=trivial
theorem PySem.W.Fast.tw5176159040409450376:True:=trivial
theorem PySem.W.Fast.tw7300940623235329229:True:=trivial
theorem PySem.W.Fast.tw10838621408491820113:True:=trivial
theorem PySem.W.Fast.tw12058038306863570588:True:=trivial
theorem PySem.W.Fast.tw14755092906540728362:True:=trivial
theorem PySem.W.Fast.tw3139994932203615933:True:=trivial
theorem PySem.W.Fast.tw1279286976679544927:True:=trivial
theorem PySem.W.Fast.tw1618180763530680382:True:=trivial
theorem PySem.W.Fast.tw4021069916085118403:True:=trivial
theorem PySem.W.Fast.tw13466180598601289435:True:=trivial
theorem PySem.W.Fast.tw10542914559465389532:True:=trivial
theorem PySem.W.Fast.tw7690671618420353285:True:=trivial
theorem PySem.W.Fast.tw17176455838092636879:True:=trivial
theorem PySem.W.Fast.tw17003991562690367163:True:=trivial
theorem PySem.W.Fast.tw12704605509943978443:True:=trivial
theorem PySem.W.Fast.tw17053043166642699073:True:=trivial
theorem PySem.W.Fast.tw11548401791173245485:True:=trivial
theorem PySem.W.Fast.tw11652769394593239313:True:=trivial
theorem PySem.W.Fast.tw4963431901912619432:True:=trivial
theorem PySem.W.Fast.tw12534294191523343934:True:=trivial
theorem PySem.W.Fast.tw18295263432254905901:True:=trivial
theorem PySem.W.Fast.tw6890930052529658601:True:=trivial
theorem PySem.W.Fast.tw2446965340002809816:True:=trivial
theorem PySem.W.Fast.tw1947323231738991953:True:=trivial
theorem PySem.W.Fast.tw14010728204386234900:True:=trivial
theorem PySem.W.Fast.tw1400077182860410373:True:=trivial
theorem PySem.W.Fast.tw14948418017564348112:True:=trivial
theorem PySem.W.Fast.tw17360960772471735433:True:=trivial
theorem PySem.W.Fast.tw11015594013767222536:True:=trivial
theorem PySem.W.Fast.tw8957690780059445040:True:=trivial
theorem PySem.W.Fast.tw573439829028552482:True:=trivial
theorem PySem.W.Fast.tw16639910464993302782:True:=trivial
theorem PySem.W.Fast.tw13065319962172150678:True:=trivial
theorem PySem.W.Fast.tw13446364908254690897:True:=trivial
theorem PySem.W.Fast.tw12192573973594300288:True:=trivial
theorem PySem.W.Fast.tw10860984828019612873:True:=trivial
theorem PySem.W.Fast.tw12998648921993237406:True:=trivial
theorem PySem.W.Fast.tw2054096967772401782:True:=trivial
theorem PySem.W.Fast.tw7955699921146262836:True:=trivial
theorem PySem.W.Fast.tw2505883764863422363:True:=trivial
theorem PySem.W.Fast.tw15005073960160060075:True:=trivial
theorem PySem.W.Fast.tw14913525103696852890:True:=trivial
theorem PySem.W.Fast.tw8115170308093827733:True:=trivial
theorem PySem.W.Fast.tw4301062167177981428:True:=trivial
theorem PySem.W.Fast.tw12709557233841604001:True:=trivial
theorem PySem.W.Fast.tw10733769380946300362:True:=trivial
theorem PySem.W.Fast.tw12676159577373964889:True:=trivial
theorem PySem.W.Fast.tw9390435627315947827:True:=trivial
theorem PySem.W.Fast.tw4984310379185697458:True:=trivial
theorem PySem.W.Fast.tw5014060951483023496:True:=trivial
theorem PySem.W.Fast.tw1126572623035004121:True:=trivial
theorem PySem.W.Fast.tw8112280211947785427:True:=trivial
theorem PySem.W.Fast.tw1258819421921818795:True:=trivial
theorem PySem.W.Fast.tw16487473636458131176:True:=trivial
theorem PySem.W.Fast.tw16077259316531973256:True:=trivial
theorem PySem.W.Fast.tw12280228366562265256:True:=trivial
theorem PySem.W.Fast.tw6230021154993811994:True:=trivial
theorem PySem.W.Fast.tw5001614314943279127:True:=trivial
theorem PySem.W.Fast.tw3023223410636707965:True:=trivial
theorem PySem.W.Fast.tw14216247783520933912:True:=trivial
theorem PySem.W.Fast.tw12288247097715175688:True:=trivial
theorem PySem.W.Fast.tw3684690642781249440:True:=trivial
theorem PySem.W.Fast.tw1514720569357693201:True:=trivial
theorem PySem.W.Fast.tw14707754134774488129:True:=trivial
theorem PySem.W.Fast.tw2781816734649803273:True:=trivial
theorem PySem.W.Fast.tw14237306777133264205:True:=trivial
theorem PySem.W.Fast.tw2063690490132625544:True:=trivial
theorem PySem.W.Fast.tw13611438512402829102:True:=trivial
theorem PySem.W.Fast.tw17294245105267451382:True:=trivial
theorem PySem.W.Fast.tw15133853726687348536:True:=trivial
theorem PySem.W.Fast.tw6374326347289292388:True:=trivial
theorem PySem.W.Fast.tw15692134153948046320:True:=trivial
theorem PySem.W.Fast.tw3094844964379578105:True:=trivial
theorem PySem.W.Fast.tw17350757606593225430:True:=trivial
theorem PySem.W.Fast.tw4999085273253892376:True:=trivial
theorem PySem.W.Fast.tw13282793308963268765:True:=trivial
theorem PySem.W.Fast.tw7218231716520949154:True:=trivial
theorem PySem.W.Fast.tw5616133076992517597:True:=trivial
theorem PySem.W.Fast.tw2246219258928865319:True:=trivial
theorem PySem.W.Fast.tw15753382224663853275:True:=trivial
theorem PySem.W.Fast.tw3399921853102712609:True:=trivial
theorem PySem.W.Fast.tw480856368679316343:True:=trivial
theorem PySem.W.Fast.tw16946217649731757584:True:=trivial
theorem PySem.W.Fast.tw10609262124703397231:True:=trivial
theorem PySem.W.Fast.tw17480053618609368070:True:=trivial
theorem PySem.W.Fast.tw1393356538155445183:True:=trivial
theorem PySem.W.Fast.tw2181941401893681838:True:=trivial
theorem PySem.W.Fast.tw16287404345756493623:True:=trivial
theorem PySem.W.Fast.tw12654518841883350019:True:=trivial
theorem PySem.W.Fast.tw13455599045851756848:True:=trivial
theorem PySem.W.Fast.tw6381053433427926368:True:=trivial
theorem PySem.W.Fast.tw13285800671071942058:True:=trivial
theorem PySem.W.Fast.tw11803492242831039253:True:=trivial
theorem PySem.W.Fast.tw15762429177578985834:True:=trivial
theorem PySem.W.Fast.tw13663216031865053228:True:=trivial
theorem PySem.W.Fast.tw10176520632016694665:True:=trivial
theorem PySem.W.Fast.tw6243018725938152732:True:=trivial
theorem PySem.W.Fast.tw18163024905367629188:True:=trivial
theorem PySem.W.Fast.tw6650822343991247039:True:=trivial
theorem PySem.W.Fast.tw10193103818844945510:True:=trivial
theorem PySem.W.Fast.tw13057796610719325838:True:=trivial
theorem PySem.W.Fast.tw13972084432582698769:True:=trivial
theorem PySem.W.Fast.tw1289163680297048501:True:=trivial
theorem PySem.W.Fast.tw6965661575388186795:True:=trivial
theorem PySem.W.Fast.tw16607023063671311708:True:=trivial
theorem PySem.W.Fast.tw1607626011869202166:True:=trivial
theorem PySem.W.Fast.tw17446131861056755321:True:=trivial
theorem PySem.W.Fast.tw7368097992927642330:True:=trivial
theorem PySem.W.Fast.tw13142597493603684372:True:=trivial
theorem PySem.W.Fast.tw10641216587887819723:True:=trivial
theorem PySem.W.Fast.tw3379991731329146581:True:=trivial
theorem PySem.W.Fast.tw9387175566348748879:True:=trivial
theorem PySem.W.Fast.tw564811564256137366:True:=trivial
theorem PySem.W.Fast.tw420384044108361699:True:=trivial
theorem PySem.W.Fast.tw1882607060164832522:True:=trivial
theorem PySem.W.Fast.tw3598862072113894469:True:=trivial
theorem PySem.W.Fast.tw171886585743331127:True:=trivial
theorem PySem.W.Fast.tw12020154098593286248:True:=trivial
theorem PySem.W.Fast.tw178493239824153081:True:=trivial
theorem PySem.W.Fast.tw8964762391738326937:True:=trivial
theorem PySem.W.Fast.tw2434304466191594468:True:=trivial
theorem PySem.W.Fast.tw7636460392228222843:True:=trivial
theorem PySem.W.Fast.tw15169408357427111116:True:=trivial
theorem PySem.W.Fast.tw10833012625895808416:True:=trivial
theorem PySem.W.Fast.tw6629739279962268751:True:=trivial
theorem PySem.W.Fast.tw16437049766528360749:True:=trivial
theorem PySem.W.Fast.tw14093436917459459670:True:=trivial
theorem PySem.W.Fast.tw14512053565608275919:True:=trivial
theorem PySem.W.Fast.tw6656889895817685135:True:=trivial
theorem PySem.W.Fast.tw14085344934441005571:True:=trivial
theorem PySem.W.Fast.tw3982102761687668733:True:=trivial
theorem PySem.W.Fast.tw16390531878822049904:True:=trivial
theorem PySem.W.Fast.tw1982623278507035287:True:=trivial
theorem PySem.W.Fast.tw8975048204117962566:True:=trivial
theorem PySem.W.Fast.tw7153765329395563383:True:=trivial
theorem PySem.W.Fast.tw7721633797389958230:True:=trivial
theorem PySem.W.Fast.tw17310380731883132028:True:=trivial
theorem PySem.W.Fast.tw7431016648686299180:True:=trivial
theorem PySem.W.Fast.tw13802699705438672305:True:=trivial
theorem PySem.W.Fast.tw15384095391344320938:True:=trivial
theorem PySem.W.Fast.tw12311554814620264188:True:=trivial
theorem PySem.W.Fast.tw14671009259550159556:True:=trivial
theorem PySem.W.Fast.tw6463334156765257020:True:=trivial
theorem PySem.W.Fast.tw7458293416371109753:True:=trivial
theorem PySem.W.Fast.tw17541889535263907360:True:=trivial
theorem PySem.W.Fast.tw3549036975371148923:True:=trivial
theorem PySem.W.Fast.tw3107540970690831229:True:=trivial
theorem PySem.W.Fast.tw2708737338385931820:True:=trivial
theorem PySem.W.Fast.tw8948904335644862246:True:=trivial
theorem PySem.W.Fast.tw12358658471341718038:True:=trivial
theorem PySem.W.Fast.tw11160945955555409618:True:=trivial
theorem PySem.W.Fast.tw3964758825495068727:True:=trivial
theorem PySem.W.Fast.tw14716472973016931741:True:=trivial
theorem PySem.W.Fast.tw2692100878744063368:True:=trivial
theorem PySem.W.Fast.tw2299823563424079902:True:=trivial
theorem PySem.W.Fast.tw17444079876802321704:True:=trivial
theorem PySem.W.Fast.tw12508111255437877528:True:=trivial
theorem PySem.W.Fast.tw9630821974346957133:True:=trivial
theorem PySem.W.Fast.tw720614721908923256:True:=trivial
theorem PySem.W.Fast.tw11724395206458263997:True:=trivial
theorem PySem.W.Fast.tw7337122193758924392:True:=trivial
theorem PySem.W.Fast.tw4001332211071951682:True:=trivial
theorem PySem.W.Fast.tw12938149897233234354:True:=trivial
theorem PySem.W.Fast.tw11339637954221470653:True:=trivial
theorem PySem.W.Fast.tw10216356226687526010:True:=trivial
theorem PySem.W.Fast.tw18428794426597353987:True:=trivial
theorem PySem.W.Fast.tw16051622369003408584:True:=trivial
theorem PySem.W.Fast.tw6146377267672140119:True:=trivial
theorem PySem.W.Fast.tw13098418863790143579:True:=trivial
theorem PySem.W.Fast.tw5869380143652497571:True:=trivial
theorem PySem.W.Fast.tw9772628782941460680:True:=trivial
theorem PySem.W.Fast.tw17030820297825929039:True:=trivial
theorem PySem.W.Fast.tw14814619470878140966:True:=trivial
theorem PySem.W.Fast.tw7532075675175154856:True:=trivial
theorem PySem.W.Fast.tw8802609979052751314:True:=trivial
theorem PySem.W.Fast.tw8514300064095966346:True:=trivial
theorem PySem.W.Fast.tw4824585076239859413:True:=trivial
theorem PySem.W.Fast.tw4725967346394334487:True:=trivial
theorem PySem.W.Fast.tw9577760875908060592:True:=trivial
theorem PySem.W.Fast.tw5578766812547678315:True:=trivial
theorem PySem.W.Fast.tw17728067612924933362:True:=trivial
theorem PySem.W.Fast.tw17451338169970940238:True:=trivial
theorem PySem.W.Fast.tw14411884403562873457:True:=trivial
theorem PySem.W.Fast.tw5276378033461080745:True:=trivial
theorem PySem.W.Fast.tw1877526394444045120:True:=trivial
theorem PySem.W.Fast.tw18209019292163836535:True:=trivial
theorem PySem.W.Fast.tw15222406631051117513:True:=trivial
theorem PySem.W.Fast.tw1093676300455350440:True:=trivial
theorem PySem.W.Fast.tw11272000861276771319:True:=trivial
theorem PySem.W.Fast.tw15962225345003029050:True:=trivial
theorem PySem.W.Fast.tw14431983267852600528:True:=trivial
theorem PySem.W.Fast.tw9019710045945344352:True:=trivial
theorem PySem.W.Fast.tw11171510480313830579:True:=trivial
theorem PySem.W.Fast.tw2526414255725739937:True:=trivial
theorem PySem.W.Fast.tw4483698903337794544:True:=trivial
theorem PySem.W.Fast.tw9809887828778472022:True:=trivial
theorem PySem.W.Fast.tw1771648942518164813:True:=trivial
theorem PySem.W.Fast.tw10807511466878561299:True:=trivial
open PySem PySem.W PyProof.Rows
set_option maxRecDepth 100000 in
set_option maxHeartbeats 0 in
theorem PySem.Challenge.cw_ledpast_k19_whole_short_tells_the_same_holds : PySem.Challenge.rw_ledpast_k19_whole_short_tells_the_same.Holds := by
 w_on; o_law; k_head; (case hw => w_witness2)
 k_fill
 refine My.walk (l := PySem.Challenge.rw_ledpast_k19_whole_short_tells_the_same) rfl rfl (fun w h Y => PySem.W.kIn_of Y) ?F
 case F =>
  intro w mg fa h KX G hmg
  refine' My.all_mk KX G hmg ?a0 ?l0 ?c0 ?k0 ?a1 ?l1 ?c1 ?k1 ?a2 ?l2 ?c2 ?k2 ?a3 ?l3 ?c3 ?k3 ?a4 ?l4 ?c4 ?k4 ?a5 ?l5 ?c5 ?k5 ?a6 ?l6 ?c6 ?k6 ?a7 ?l7 ?c7 ?k7 ?a8 ?l8 ?c8 ?k8 ?a9 ?l9 ?c9 ?k9 ?a10 ?l10 ?c10 ?k10 ?a11 ?l11 ?c11 ?k11 ?a12 ?l12 ?c12 ?k12 ?a13 ?l13 ?c13 ?k13 ?a14 ?l14 ?c14 ?k14 ?a15 ?l15 ?c15 ?k15 ?a16 ?l16 ?c16 ?k16 ?a17 ?l17 ?c17 ?k17 ?a18 ?l18 ?c18 ?k18 ?a19 ?i19 ?l19 ?c19 ?k19 ?a20 ?i20 ?l20 ?c20 ?k20 ?a21 ?l21 ?c21 ?k21 ?a22 ?l22 ?c22 ?k22 ?a23 ?l23 ?c23 ?k23 ?a24 ?l24 ?c24 ?k24 ?a25 ?l25 ?c25 ?k25 ?a26 ?l26 ?c26 ?k26 ?a27 ?l27 ?c27 ?k27 ?a28 ?l28 ?c28 ?k28 ?a29 ?l29 ?c29 ?k29 ?a30 ?l30 ?c30 ?k30 ?a31 ?i31 ?l31 ?c31 ?k31 ?a32 ?i32 ?l32 ?c32 ?k32 ?a33 ?i33 ?l33 ?c33 ?k33 ?a34 ?i34 ?l34 ?c34 ?k34 ?a35 ?i35 ?l35 ?c35 ?k35 ?a36 ?i36 ?l36 ?c36 ?k36 ?a37 ?i37 ?l37 ?c37 ?k37 ?a38 ?i38 ?l38 ?c38 ?k38 ?a39 ?i39 ?l39 ?c39 ?k39 ?a40 ?i40 ?l40 ?c40 ?k40 ?a41 ?l41 ?c41 ?k41 ?a42 ?l42 ?c42 ?k42 ?a43 ?l43 ?c43 ?k43 ?a44 ?l44 ?c44 ?k44 ?a45 ?l45 ?c45 ?k45 ?a46 ?l46 ?c46 ?k46 ?a47 ?l47 ?c47 ?k47 ?a48 ?l48 ?c48 ?k48 ?a49 ?l49 ?c49 ?k49 ?a50 ?l50 ?c50 ?k50 ?a51 ?l51 ?c51 ?k51 ?a52 ?l52 ?c52 ?k52 ?a53 ?l53 ?c53 ?k53 ?a54 ?l54 ?c54 ?k54 ?a55 ?l55 ?c55 ?k55 ?a56 ?l56 ?c56 ?k56 ?a57 ?l57 ?c57 ?k57 ?a58 ?l58 ?c58 ?k58 ?z_len ?z_zip ?z_tuple ?z_sorted ?z_set ?z_dict ?z_min ?z_max ?z_range ?z_list ?z_int ?gA ?lA ?g_MOST_TO_LEAD ?gE ?lE ?qE0 ?qE1 ?qE2 ?qE3 ?gD ?lD ?qD0 ?qD1 ?qD2 ?qD3 ?qD4 ?aCC ?pgC ?hdC ?poC ?saC ?mkC ?kcC ?nC_pieces ?nC_passed ?nC_place ?nC_worths ?nC_numbers ?nC_taken ?nC_spoken ?nC_over ?aCCR ?pgCR ?hdCR ?poCR ?saCR ?mkCR ?kcCR ?nCR_members ?nCR_places
  (case gA => k_is)
  (case lA => k_is)
  (case g_MOST_TO_LEAD => k_is)
  (case gE => k_is)
  (case lE => k_is)
  (case qE0 => k_is)
  (case qE1 => k_is)
  (case qE2 => k_is)
  (case qE3 => k_is)
  (case gD => k_is)
  (case lD => k_is)
  (case qD0 => k_is)
  (case qD1 => k_is)
  (case qD2 => k_is)
  (case qD3 => k_is)
  (case qD4 => k_is)
  (case aCC => k_is)
  (case pgC => k_is)
  (case hdC => k_is)
  (case poC => k_is)
  (case saC => k_is)
  (case mkC => k_is)
  (case kcC => k_is)
  (case nC_pieces => k_is)
  (case nC_passed => k_is)
  (case nC_place => k_is)
  (case nC_worths => k_is)
  (case nC_numbers => k_is)
  (case nC_taken => k_is)
  (case nC_spoken => k_is)
  (case nC_over => k_is)
  (case aCCR => k_is)
  (case pgCR => k_is)
  (case hdCR => k_is)
  (case poCR => k_is)
  (case saCR => k_is)
  (case mkCR => k_is)
  (case kcCR => k_is)
  (case nCR_members => k_is)
  (case nCR_places => k_is)
  (case a0 => k_is)
  (case l0 => k_is)
  (case c0 => k_is)
  (case k0 => k_is)
  (case a1 => k_is)
  (case l1 => k_is)
  (case c1 => k_is)
  (case k1 => k_is)
  (case a2 => k_is)
  (case l2 => k_is)
  (case c2 => k_is)
  (case k2 => k_is)
  (case a3 => k_is)
  (case l3 => k_is)
  (case c3 => k_is)
  (case k3 => k_is)
  (case a4 => k_is)
  (case l4 => k_is)
  (case c4 => k_is)
  (case k4 => k_is)
  (case a5 => k_is)
  (case l5 => k_is)
  (case c5 => k_is)
  (case k5 => k_is)
  (case a6 => k_is)
  (case l6 => k_is)
  (case c6 => k_is)
  (case k6 => k_is)
  (case a7 => k_is)
  (case l7 => k_is)
  (case c7 => k_is)
  (case k7 => k_is)
  (case a8 => k_is)
  (case l8 => k_is)
  (case c8 => k_is)
  (case k8 => k_is)
  (case a9 => k_is)
  (case l9 => k_is)
  (case c9 => k_is)
  (case k9 => k_is)
  (case a10 => k_is)
  (case l10 => k_is)
  (case c10 => k_is)
  (case k10 => k_is)
  (case a11 => k_is)
  (case l11 => k_is)
  (case c11 => k_is)
  (case k11 => k_is)
  (case a12 => k_is)
  (case l12 => k_is)
  (case c12 => k_is)
  (case k12 => k_is)
  (case a13 => k_is)
  (case l13 => k_is)
  (case c13 => k_is)
  (case k13 => k_is)
  (case a14 => k_is)
  (case l14 => k_is)
  (case c14 => k_is)
  (case k14 => k_is)
  (case a15 => k_is)
  (case l15 => k_is)
  (case c15 => k_is)
  (case k15 => k_is)
  (case a16 => k_is)
  (case l16 => k_is)
  (case c16 => k_is)
  (case k16 => k_is)
  (case a17 => k_is)
  (case l17 => k_is)
  (case c17 => k_is)
  (case k17 => k_is)
  (case a18 => k_is)
  (case l18 => k_is)
  (case c18 => k_is)
  (case k18 => k_is)
  (case a19 => k_is)
  (case i19 => k_is)
  (case l19 => k_is)
  (case c19 => k_is)
  (case k19 => k_is)
  (case a20 => k_is)
  (case i20 => k_is)
  (case l20 => k_is)
  (case c20 => k_is)
  (case k20 => k_is)
  (case a21 => k_is)
  (case l21 => k_is)
  (case c21 => k_is)
  (case k21 => k_is)
  (case a22 => k_is)
  (case l22 => k_is)
  (case c22 => k_is)
  (case k22 => k_is)
  (case a23 => k_is)
  (case l23 => k_is)
  (case c23 => k_is)
  (case k23 => k_is)
  (case a24 => k_is)
  (case l24 => k_is)
  (case c24 => k_is)
  (case k24 => k_is)
  (case a25 => k_is)
  (case l25 => k_is)
  (case c25 => k_is)
  (case k25 => k_is)
  (case a26 => k_is)
  (case l26 => k_is)
  (case c26 => k_is)
  (case k26 => k_is)
  (case a27 => k_is)
  (case l27 => k_is)
  (case c27 => k_is)
  (case k27 => k_is)
  (case a28 => k_is)
  (case l28 => k_is)
  (case c28 => k_is)
  (case k28 => k_is)
  (case a29 => k_is)
  (case l29 => k_is)
  (case c29 => k_is)
  (case k29 => k_is)
  (case a30 => k_is)
  (case l30 => k_is)
  (case c30 => k_is)
  (case k30 => k_is)
  (case a31 => k_is)
  (case i31 => k_is)
  (case l31 => k_is)
  (case c31 => k_is)
  (case k31 => k_is)
  (case a32 => k_is)
  (case i32 => k_is)
  (case l32 => k_is)
  (case c32 => k_is)
  (case k32 => k_is)
  (case a33 => k_is)
  (case i33 => k_is)
  (case l33 => k_is)
  (case c33 => k_is)
  (case k33 => k_is)
  (case a34 => k_is)
  (case i34 => k_is)
  (case l34 => k_is)
  (case c34 => k_is)
  (case k34 => k_is)
  (case a35 => k_is)
  (case i35 => k_is)
  (case l35 => k_is)
  (case c35 => k_is)
  (case k35 => k_is)
  (case a36 => k_is)
  (case i36 => k_is)
  (case l36 => k_is)
  (case c36 => k_is)
  (case k36 => k_is)
  (case a37 => k_is)
  (case i37 => k_is)
  (case l37 => k_is)
  (case c37 => k_is)
  (case k37 => k_is)
  (case a38 => k_is)
  (case i38 => k_is)
  (case l38 => k_is)
  (case c38 => k_is)
  (case k38 => k_is)
  (case a39 => k_is)
  (case i39 => k_is)
  (case l39 => k_is)
  (case c39 => k_is)
  (case k39 => k_is)
  (case a40 => k_is)
  (case i40 => k_is)
  (case l40 => k_is)
  (case c40 => k_is)
  (case k40 => k_is)
  (case a41 => k_is)
  (case l41 => k_is)
  (case c41 => k_is)
  (case k41 => k_is)
  (case a42 => k_is)
  (case l42 => k_is)
  (case c42 => k_is)
  (case k42 => k_is)
  (case a43 => k_is)
  (case l43 => k_is)
  (case c43 => k_is)
  (case k43 => k_is)
  (case a44 => k_is)
  (case l44 => k_is)
  (case c44 => k_is)
  (case k44 => k_is)
  (case a45 => k_is)
  (case l45 => k_is)
  (case c45 => k_is)
  (case k45 => k_is)
  (case a46 => k_is)
  (case l46 => k_is)
  (case c46 => k_is)
  (case k46 => k_is)
  (case a47 => k_is)
  (case l47 => k_is)
  (case c47 => k_is)
  (case k47 => k_is)
  (case a48 => k_is)
  (case l48 => k_is)
  (case c48 => k_is)
  (case k48 => k_is)
  (case a49 => k_is)
  (case l49 => k_is)
  (case c49 => k_is)
  (case k49 => k_is)
  (case a50 => k_is)
  (case l50 => k_is)
  (case c50 => k_is)
  (case k50 => k_is)
  (case a51 => k_is)
  (case l51 => k_is)
  (case c51 => k_is)
  (case k51 => k_is)
  (case a52 => k_is)
  (case l52 => k_is)
  (case c52 => k_is)
  (case k52 => k_is)
  (case a53 => k_is)
  (case l53 => k_is)
  (case c53 => k_is)
  (case k53 => k_is)
  (case a54 => k_is)
  (case l54 => k_is)
  (case c54 => k_is)
  (case k54 => k_is)
  (case a55 => k_is)
  (case l55 => k_is)
  (case c55 => k_is)
  (case k55 => k_is)
  (case a56 => k_is)
  (case l56 => k_is)
  (case c56 => k_is)
  (case k56 => k_is)
  (case a57 => k_is)
  (case l57 => k_is)
  (case c57 => k_is)
  (case k57 => k_is)
  (case a58 => k_is)
  (case l58 => k_is)
  (case c58 => k_is)
  (case k58 => k_is)
  (case z_len => k_is)
  (case z_zip => k_is)
  (case z_tuple => k_is)
  (case z_sorted => k_is)
  (case z_set => k_is)
  (case z_dict => k_is)
  (case z_min => k_is)
  (case z_max => k_is)
  (case z_range => k_is)
  (case z_list => k_is)
  (case z_int => k_is)
