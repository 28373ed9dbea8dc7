import PyProof.Rows.All
import Wide.All
import OpenK.AllK
import Wide.FinOn
import Lean
import PyProof.EqAt
import PyProof.EqKinds
import PyProof.TupleCall
import PyProof.NeData
import Wide.Seal
import Wide.OfPy
import KE.KSetDisp
import PyProof.DictCompW
import PyProof.EnumMake
import PyProof.Draws
import PyProof.ListMulRoad
import PyProof.TupleOfStr
import PyProof.ListRange
import PySem.Challenge.RW_ledpast_k16_whole_let_by_same_tellings
open Or renaming inl→GN
open List renaming length_map→GO
open PySem.W renaming Frag→GP
open Nat renaming le_refl→GQ
open List renaming mem_singleton→GR
open List renaming mem_cons→GS
open PySem.Heap renaming lt_size→GU
open PySem.Heap renaming get?_push_of_some→GV
open List renaming length_append→GW
open PySem.Heap renaming get?_push_size→GX
open Nat renaming le_trans→GY
open List renaming mem_cons_self→GZ
open Nat renaming ne_of_lt→G0
open List renaming mem_cons_of_mem→G1
open List renaming map_append→G3
open List renaming mem_map→G4
open Option renaming some→G5
open Or renaming inr→G6
open List renaming getElem?_eq_some_iff→G7
open List renaming getElem?_map→G8
open List renaming mem_of_getElem?→G9
open List renaming size_toArray→Ha
open Bool renaming and_eq_true→Hb
open PySem.Heap renaming size_push→Hc
open List renaming mem_append→Hd
open Bool renaming false_ne_true→He
open Nat renaming lt_irrefl→Hf
open Nat renaming zero_le→Hg
open List renaming map_cons→Hh
open List renaming take_add_one→Hi
open Nat renaming lt_of_lt_of_le→Hj
open PySem.Heap renaming SameBut→Hk
open Nat renaming le_succ_of_le→Hl
open List renaming length_take→Hm
open List renaming mem_append_right→Hn
open PySem.W renaming nsIn→Ho
open List renaming length_cons→Hq
open List renaming take_length→Hr
open List renaming range→Hs
open Nat renaming le_of_lt→Ht
open PySem.W renaming fnOf→Hu
open List renaming mem_append_left→Hv
open Array renaming length_toList→Hw
open PySem.W renaming findIn→Hx
open Nat renaming lt_succ_of_lt→Hy
open PySem.W renaming mg_none_of→Hz
open List renaming lookup→HA
open List renaming append_assoc→HB
open List renaming all_eq_true→HC
open List renaming mem_filter→HD
open Nat renaming ne_of_gt→HE
open PySem.W renaming keepIn→HF
open Nat renaming lt_succ_self→HG
open List renaming length→HI
open PySem.Heap renaming get?_update_self→HJ
open List renaming getElem_mem→HK
open List renaming not_mem_nil→HL
open Nat renaming le_add_right→HM
open PySem.W renaming emptyDict→HN
open Nat renaming le_succ→HP
open List renaming nodup_cons→HQ
open PySem.Heap renaming get?_update_other→HR
open List renaming forIn_cons→HS
open List renaming lookup_cons→HU
open List renaming length_filter_le→HV
open PySem.Around renaming under_plainId→HW
open PySem.W renaming instObj→HX
open List renaming getElem?_append_left→HY
open Int renaming toNat_natCast→HZ
open List renaming length_set→Ia
open List renaming Pairwise→Ic
open Bool renaming false_eq_true→Ie
open List renaming mem_range→Ig
open PySem.W renaming codeIn→Ih
open List renaming map_map→Ii
open List renaming nodup_append→Ij
open Bool renaming true_and→Ik
open PySem.W renaming mg_of→Il
open List renaming append_nil→Im
open List renaming length_drop→Io
open Nat renaming succ_le_succ→Ip
open Nat renaming lt_of_le_of_lt→Iq
open List renaming forIn_nil→Ir
open List renaming foldl_cons→Iu
open List renaming find?_cons→Iv
open List renaming take_of_length_le→Iw
open List renaming nodup_nil→Iy
open List renaming getElem?_eq_none→Iz
open Int renaming toNat→IA
open List renaming filterMap_cons→IB
open Bool renaming eq_iff_iff→IC
open PySem.W renaming plainGet→ID
open PySem.W renaming isFn→IE
open List renaming getElem?_append_right→IF
open List renaming any_cons→IG
open Array renaming getElem?_toList→IH
open PySem.Heap renaming IsTuple→II
open PySem.Shared renaming heap→IJ
open Option renaming map_some→IK
open List renaming length_range→IL
open Nat renaming le_of_succ_le→IM
open List renaming filter_cons_of_neg→IP
open List renaming mem_or_eq_of_mem_set→IQ
open Bool renaming false_and→IS
open PySem.W renaming lookIn→IT
open PySem.W renaming hasDictIn→IU
open PySem.W renaming makesIn→IV
open List renaming of_mem_zip→IW
open List renaming replicate→IX
open List renaming length_replicate→IY
open List renaming zipIdx_cons→IZ
open List renaming zipIdx_nil→I0
open List renaming length_nil→Ja
open List renaming filter_cons→Jc
open Nat renaming lt_trans→Jd
open List renaming map_congr_left→Je
open List renaming filter_append→Jf
open Nat renaming not_succ_le_self→Jg
open List renaming foldl_append→Jh
open List renaming pairwise_cons→Ji
open Bool renaming eq_false_iff→Jj
open List renaming filter_cons_of_pos→Jk
open PySem.W renaming kdsCode→Jl
open List renaming mem_of_mem_take→Jm
open PySem.W renaming methodObj→Jn
open List renaming mem_filterMap→Jo
open PySem.W renaming plainGet_of→Jp
open PySem.W renaming plainOver→Jq
open PySem.W renaming callWith_K→Jr
open List renaming getElem?_eq_getElem→Js
open List renaming find?_cons_of_pos→Jt
open List renaming find?_cons_of_neg→Ju
open List renaming getElem?_eq_none_iff→Jv
open Option renaming toList_some→Jw
open PySem renaming wpAny_bind→Jx
open PySem renaming wpAny_pure→Jy
open PySem renaming wpAny_mono→Jz
open PySem renaming wpAny_field→JA
open PySem renaming wpAny_holding→JB
open PySem renaming wpAny_call_entry→JC
open PySem renaming wpAny_seqItems→JD
open PySem renaming wpAny_newObj_type→JE
open PySem renaming wpAny_rule→JF
open PySem renaming wpAny_setField_rec→JG
open PySem renaming codeAny_builtin→JH
open PySem renaming wpAny_attempt→JI
open PySem renaming wpAny_truthy_bool→JJ
open PySem renaming codeAny_mono→JK
open PySem renaming wpAny_setField→JL
open PySem renaming wpAny_onRaise→JM
open PySem renaming wpAny_passesOwn→JN
open PySem renaming wpAny_pyIter_tuple→JO
open PySem renaming wpAny_typeOf→JP
open PySem renaming wpAny_letGo→JQ
open PySem renaming wpAny_standAt→JR
open PySem renaming wpAny_isInstance→JS
open PySem renaming wpAny_setState_of→JT
open PySem renaming wpAny_Call_Name_kw→JU
open PySem renaming wpAny_setEntries_of→JV
open PySem renaming wpAny_alloc→JW
open PySem renaming wpAny_execs_nil→JX
open PySem renaming wpAny_pyIter_zip→JY
open PySem renaming wpAny_askSetting→JZ
open PySem renaming wpAny_ite_split→J0
open PySem renaming wpAny_fieldsOf→J1
open PySem renaming wpAny_pyHash_str→J2
open PySem renaming wpAny_pyIter_list→J3
open PySem renaming wpAny_sequenceKey→J4
open PySem renaming wpAny_updateSeq_pair→J5
open PySem renaming wpAny_setEpoch_of→J6
open PySem renaming wpAny_comprehension_free→J7
open PySem renaming wpAny_letOwnedTupleGo_zip→J8
set_option maxHeartbeats 8000000
set_option Elab.async false
set_option linter.all false
set_option maxRecDepth 100000
namespace L2
open PySem PySem.Spec PyProof.Rows
abbrev Key:=Sum Int Str
def ik:Key->Value->Bool
 | .inl k,v=>Value.isInt k v
 | .inr x,v=>Value.isStrOf x v
def Fw (w:World):Key->Int
 | .inl k=>hashInt k
 | .inr x=>hashStr w x
theorem cW:∀{k:Key} {v:Value},ik k v=true->(∃i t,k=Sum.inl i/\v=Value.int i t)\/(∃x t,k=Sum.inr x/\v=Value.str x t)
 | .inl i,v,h=>by
  obtain⟨t,e⟩:=Value.isInt_shape (k:=i) (v:=v) h
  exact .inl ⟨i,t,rfl,e⟩
 | .inr x,v,h=>by
  obtain⟨t,e⟩:=Value.isStrOf_shape (x:=x) (v:=v) h
  exact .inr ⟨x,t,rfl,e⟩
theorem yx (i:Int)(t:Tok):ik (.inl i) (.int i t)=true:=by simp [ik,Value.isInt]
theorem yy (x:Str)(t:Tok):ik (.inr x) (.str x t)=true:=by simp [ik,Value.isStrOf]
theorem Dv (a b:Int):decide ((Sum.inl a:Key)=Sum.inl b)=(a == b):=by
 by_cases e:a=b
 ·subst e;simp
 ·have h:¬(Sum.inl a:Key)=Sum.inl b:=fun q=>e (Sum.inl.inj q)
  rw [decide_eq_false h]
  exact (beq_eq_false_iff_ne.mpr e).symm
theorem Dw (a b:Str):decide ((Sum.inr a:Key)=Sum.inr b)=decide (a=b):=by
 by_cases e:a=b
 ·subst e;simp
 ·have h:¬(Sum.inr a:Key)=Sum.inr b:=fun q=>e (Sum.inr.inj q)
  rw [decide_eq_false h,decide_eq_false e]
theorem Dx (a:Int)(b:Str):decide ((Sum.inl a:Key)=Sum.inr b)=false:=decide_eq_false (fun q=>nomatch q)
theorem Dy (a:Str)(b:Int):decide ((Sum.inr a:Key)=Sum.inl b)=false:=decide_eq_false (fun q=>nomatch q)
def aT (prog:Program)(w:World):PySem.KeyKind prog w Key where
 is:=ik
 hash:=Fw w
 inj:=fun v a b ha hb=>by
  rcases cW ha with ⟨i,t,rfl,rfl⟩ | ⟨x,t,rfl,rfl⟩
  ·rcases cW hb with ⟨j,u,rfl,e⟩ | ⟨y,u,rfl,e⟩
   ·injection e with e1 _;rw [e1]
   ·exact nomatch e
  ·rcases cW hb with ⟨j,u,rfl,e⟩ | ⟨y,u,rfl,e⟩
   ·exact nomatch e
   ·injection e with e1 _;rw [e1]
 byValue:=fun k v h=>by
  rcases cW h with ⟨i,t,rfl,rfl⟩ | ⟨x,t,rfl,rfl⟩ <;> rfl
 pyHash:=fun hv h=>by
  rcases cW hv with ⟨i,t,rfl,rfl⟩ | ⟨x,t,rfl,rfl⟩
  ·exact wpAny_pyHash_int h
  ·exact J2 h
 eqBool:=fun hu hv h=>by
  rcases cW hu with ⟨i,t,rfl,rfl⟩ | ⟨x,t,rfl,rfl⟩
  ·rcases cW hv with ⟨j,u,rfl,rfl⟩ | ⟨y,u,rfl,rfl⟩
   ·rw [Dv] at h;exact wpAny_eqBool_int h
   ·rw [Dx] at h;exact SeqAt.EqAt.int_str i t y u _ _ _ _ h
  ·rcases cW hv with ⟨j,u,rfl,rfl⟩ | ⟨y,u,rfl,rfl⟩
   ·rw [Dy] at h;exact SeqAt.EqAt.str_int x t j u _ _ _ _ h
   ·rw [Dw] at h;exact wpAny_eqBool_str h
 «strs»:=fun k x t v h=>by
  rcases cW h with ⟨i,u,rfl,e⟩ | ⟨y,u,rfl,e⟩
  ·exact nomatch e
  ·injection e with e1 _
   subst e1
   cases v <;> rfl
theorem nO (prog:Program)(w:World)(i:Int)(t:Tok):(aT prog w).is (.inl i) (.int i t)=true:=yx i t
theorem nP (prog:Program)(w:World)(x:Str)(t:Tok):(aT prog w).is (.inr x) (.str x t)=true:=yy x t
inductive V where
 | bC | bl (b:Bool) | int (i:Int) | str (x:Str) | iW (b:Array UInt8) | yz (b:UInt64) | ref (a:Addr) | ty (n:String)
 deriving DecidableEq
def RelV:V->Value->Prop
 | .bC,u=>u=Value.none
 | .bl b,u=>u=Value.bool b
 | .int i,u=>∃t,u=Value.int i t
 | .str x,u=>∃t,u=Value.str x t
 | .iW b,u=>∃t,u=Value.bytes b t
 | .yz b,u=>∃t,u=Value.float b t
 | .ref a,u=>u=Value.ref a
 | .ty n,u=>u=Value.type n
abbrev Vals:List V->List Value->Prop:=Paired RelV
theorem Vals.length {xs:List V}{us:List Value}(r:Vals xs us):xs.length=us.length:=Paired.length r
theorem Vals.get:∀{xs:List V} {us:List Value} {i:Nat} {x:V},Vals xs us->xs[i]?=some x->∃u,us[i]?=some u/\RelV x u
 | _,_,_,_,.nil,e=>by simp at e
 | _,_,0,_,.cons r _,e=>by simp at e;subst e;exact⟨_,rfl,r⟩
 | _,_,i+1,x,.cons _ t,e=>by
  obtain⟨u,h1,h2⟩:=Vals.get (i:=i) (x:=x) t (by simpa using e)
  exact⟨u,by simpa using h1,h2⟩
theorem Vals.set {x:V}{u:Value}(r:RelV x u):∀{xs:List V} {us:List Value} (i:Nat),Vals xs us->Vals (xs.set i x) (us.set i u)
 | _,_,_,.nil=>.nil
 | _,_,0,.cons _ t=>.cons r t
 | _,_,i+1,.cons q t=>.cons q (Vals.set r i t)
theorem Vals.append:∀{xs ys:List V} {us ws:List Value},Vals xs us->Vals ys ws->Vals (xs++ys) (us++ws)
 | _,_,_,_,.nil,s=>s
 | _,_,_,_,.cons r t,s=>.cons r (Vals.append t s)
theorem Vals.take:∀{xs:List V} {us:List Value} (n:Nat),Vals xs us->Vals (xs.take n) (us.take n)
 | _,_,0,_=>.nil
 | _,_,_+1,.nil=>.nil
 | _,_,n+1,.cons r t=>.cons r (Vals.take n t)
theorem Vals.drop:∀{xs:List V} {us:List Value} (n:Nat),Vals xs us->Vals (xs.drop n) (us.drop n)
 | _,_,0,r=>r
 | _,_,_+1,.nil=>.nil
 | _,_,n+1,.cons _ t=>Vals.drop n t
def eY:Option V->Option Value->Prop
 | some v,some u=>RelV v u
 | none,none=>True
 | _,_=>False
def KV {κ : Type}:List (κ×V)->List (κ×Value)->Prop:=Paired fun (p:κ×V) (q:κ×Value)=>p.1=q.1/\RelV p.2 q.2
def kV:Key->V
 | .inl i=>.int i
 | .inr x=>.str x
inductive HO where
 | lst (xs:List V)
 | tup (xs:List V)
 | dK (kvs:List (Key×V)) | dT (kvs:List (List Key×V))
 | set (S:Int->Bool) (n:Nat)
 | ins (C dx:Addr) (fs:List (Str×V))
 | own (x:Addr)
 | xd (fs:List (Str×V))
 | met (f x:Addr)
 | Dz (lo hi:Int)
 | eU (o:Obj) (u:HO)
 | lQ (ps:Array Value)
 | ext (φ : Heap->Prop)
abbrev Hp:=Addr->Option HO
def upd (H:Hp)(a:Addr)(o:HO):Hp:=fun b=>if b=a then some o else H b
theorem af {H:Hp}{a:Addr}{o:HO}:upd H a o a=some o:=by unfold upd;rw [if_pos rfl]
theorem au {H:Hp}{a b:Addr}{o:HO}(h:b≠a):upd H a o b=H b:=by unfold upd;rw [if_neg h]
theorem Cy {H:Hp}{a:Addr}{o u:HO}:upd (upd H a o) a u=upd H a u:=by
 funext b;unfold upd;split <;> rfl
theorem bN {H:Hp}{a b:Addr}{o u:HO}(h:H a=some o)(h':H b=some u)(d:o≠u):a≠b:=by
 intro e;subst e;rw [h] at h';exact d (G5.inj h')
theorem aG {H:Hp}{a b:Addr}{o:HO}(h:H a=some o)(h':H b=none):a≠b:=by
 intro e;subst e;rw [h] at h';cases h'
section
variable (P:Program)(w:World)
def cy (H:Hp)(h:Heap)(a:Addr):HO->Prop
 | .lst xs=>xs.length<=sizeLine/\∃(its:List Value) (n:Nat),Vals xs its/\h.get? a=some { cls:=.type "list",data:=.seq its.toArray n }
 | .tup xs=>xs.length<=sizeLine/\∃its:List Value,Vals xs its/\∃o,h.get? a=some o/\o.cls=.type "tuple" /\ ∃n,o.data=.seq its.toArray n/\o.dict=none
 | .dK kvs=>kvs.length<=sizeLine/\(a == sysModules)=false/\∃vs,KV kvs vs/\h.DictOf (aT P w) a vs
 | .dT kvs=>kvs.length<=sizeLine/\(a == sysModules)=false/\∃xs:List (List Key×Addr×Value),
   Paired (fun (p:List Key×V) (q:List Key×Addr×Value)=>p.1=q.1/\H q.2.1=some (.tup (p.1.map kV))/\RelV p.2 q.2.2) kvs xs /\
   ∃o es ep,h.get? a=some o/\o.ExactDict/\o.data=.dict es ep/\es.toList=xs.map (entryOfKey (tupleKind (aT P w)))/\(xs.map (·.1)).Nodup
 | .set S n=>h.SetOf (intKind P w) a S n
 | .ins C dx fs=>H dx=some (.own a)/\fs.length<=1000/\dx≠a/\h.get? a=some (HX C dx) /\
   ∃mA,h.Ns1 dx mA/\(∀f,eY (fs.lookup f) (mA f))/\PySem.Within mA (fs.map (·.1))
 | .own _=>∃o,h.get? a=some o
 | .xd fs=>∃mA,h.Ns1 a mA/\∀f,eY (fs.lookup f) (mA f)
 | .Dz lo hi=>∃t u v,h.get? a=some { cls:=.type "range",data:=.fields #[.int lo t,.int hi u,.int 1 v] }
 | .eU o u=>h.get? a=some o/\cy H h a u
 | .lQ ps=>h.get? a=some { cls:=.none,data:=.fields ps }
 | .met f x=>h.get? a=some (Jn (.ref f) (.ref x))
 | .ext φ=>φ h/\(∃o,h.get? a=some o)/\∀h1 h2:Heap,φ h1->(∀o,h1.get? a=some o->h2.get? a=some o)->φ h2
def d7 (H:Hp)(h:Heap):Prop:=∀a o,H a=some o->cy P w H h a o
end
section
variable {P:Program}{w:World}{H H':Hp}{h h':Heap}{a:Addr}{o:HO}
theorem cy.lt (x:cy P w H h a o):a<h.objs.size:=by
 cases o with
 | lst xs=>obtain⟨_,_,_,_,e⟩:=x;exact GU e
 | tup xs=>obtain⟨_,_,_,p⟩:=x;exact (let ⟨o,e,_⟩:=p;GU e)
 | dK kvs=>obtain⟨_,_,_,_,o,_,_,e,_⟩:=x;exact GU e
 | dT kvs=>obtain⟨_,_,_,_,o,_,_,e,_⟩:=x;exact GU e
 | set S n=>obtain⟨o,_,_,_,e,_⟩:=x;exact GU e
 | ins C dx fs=>obtain⟨_,_,_,e,_⟩:=x;exact GU e
 | own y=>obtain⟨_,e⟩:=x;exact GU e
 | xd fs=>obtain⟨_,⟨_,_,_,e,_⟩,_⟩:=x;exact GU e
 | Dz lo hi=>obtain⟨_,_,_,e⟩:=x;exact GU e
 | eU ob u=>obtain⟨e,_⟩:=x;exact GU e
 | lQ ps=>exact GU (show h.get? a=some _ from x)
 | met f y=>exact GU (show h.get? a=some _ from x)
 | ext φ=>obtain⟨_,⟨_,e⟩,_⟩:=x;exact GU e
theorem Paired.Ac {α β : Type}{F G:α->β->Prop}:∀{l₁ : List α} {l₂ : List β},Paired F l₁ l₂->(∀a b,F a b->G a b)->Paired G l₁ l₂
 | _,_,.nil,_=>.nil
 | _,_,.cons r t,f=>.cons (f _ _ r) (Paired.Ac t f)
theorem cy.oy (x:cy P w H h a o)(k:∀b u,(b=a\/H b=some (.own a))->h.get? b=some u->h'.get? b=some u)
  (ho:∀b,H b=some (.own a)->H' b=some (.own a)) (ht:∀b xs,H b=some (.tup xs)->H' b=some (.tup xs)):cy P w H' h' a o:=by
 induction o with
 | lst xs=>obtain⟨z,its,n,r,e⟩:=x;exact⟨z,its,n,r,k _ _ (.inl rfl) e⟩
 | tup xs=>obtain⟨z,its,r,ob,e,c⟩:=x;exact⟨z,its,r,ob,k _ _ (.inl rfl) e,c⟩
 | dK kvs=>obtain⟨z,y,vs,r,ob,es,ep,e,c⟩:=x;exact⟨z,y,vs,r,ob,es,ep,k _ _ (.inl rfl) e,c⟩
 | dT kvs =>
  obtain⟨z,y,xs,r,ob,es,ep,e,c⟩:=x
  exact⟨z,y,xs,Paired.Ac r fun p q z=>⟨z.1,ht _ _ z.2.1,z.2.2⟩,ob,es,ep,k _ _ (.inl rfl) e,c⟩
 | set S n=>obtain⟨ob,es,ep,t,e,c⟩:=x;exact⟨ob,es,ep,t,k _ _ (.inl rfl) e,c⟩
 | ins C dx fs =>
  obtain⟨d,z,ne,e,mA,⟨od,es,ep,e2,c⟩,r⟩:=x
  exact⟨ho _ d,z,ne,k _ _ (.inl rfl) e,mA,⟨od,es,ep,k _ _ (.inr d) e2,c⟩,r⟩
 | own y=>obtain⟨ob,e⟩:=x;exact⟨ob,k _ _ (.inl rfl) e⟩
 | xd fs=>obtain⟨mA,⟨od,es,ep,e,c⟩,r⟩:=x;exact⟨mA,⟨od,es,ep,k _ _ (.inl rfl) e,c⟩,r⟩
 | Dz lo hi=>obtain⟨t,u,v,e⟩:=x;exact⟨t,u,v,k _ _ (.inl rfl) e⟩
 | eU ob u ih=>obtain⟨e,q⟩:=x;exact⟨k _ _ (.inl rfl) e,ih q⟩
 | lQ ps =>
  have e:h.get? a=some { cls:=.none,data:=.fields ps }:=x
  show h'.get? a=some { cls:=.none,data:=.fields ps }
  exact k a _ (.inl rfl) e
 | met f y =>
  have e:h.get? a=some (Jn (.ref f) (.ref y)):=x
  show h'.get? a=some (Jn (.ref f) (.ref y))
  exact k a _ (.inl rfl) e
 | ext φ=>obtain⟨p,⟨o,e⟩,st⟩:=x;exact⟨st _ _ p fun o q=>k _ _ (.inl rfl) q,⟨o,k _ _ (.inl rfl) e⟩,st⟩
theorem d7.lt (x:d7 P w H h)(e:H a=some o):a<h.objs.size:=(x a o e).lt
theorem d7.fresh (x:d7 P w H h)(e:h.objs.size<=a):H a=none:=by
 cases q:H a with
 | none=>rfl
 | some u=>exact absurd (Hj (x.lt q) e) (Hf _)
theorem d7.kept (x:d7 P w H h)(k:∀b u,h.get? b=some u->h'.get? b=some u):d7 P w H h':=fun a o e =>
 (x a o e).oy (fun b u _ q=>k b u q) (fun _ q=>q) fun _ _ q=>q
theorem d7.laid (x:d7 P w H h)(k:∀b u,h.get? b=some u->h'.get? b=some u)(hp:h.objs.size<=a)(new:cy P w (upd H a o) h' a o):d7 P w (upd H a o) h':=fun b u e=>by
 have hn:=x.fresh hp
 by_cases hb:b=a
 ·subst hb;rw [af] at e;cases e;exact new
 ·rw [au hb] at e
  exact (x b u e).oy (fun c v _ q=>k c v q) (fun c q=>by rw [au (aG q hn)];exact q) fun c xs q=>by rw [au (aG q hn)];exact q
end
def Rd (H:Hp)(a:Addr)(u:HO):Prop:=H a=some u\/∃o,H a=some (.eU o u)
theorem Rd.ok {P:Program}{w:World}{H:Hp}{h:Heap}{a:Addr}{u:HO}(r:Rd H a u)(x:d7 P w H h):cy P w H h a u:=by
 rcases r with r | ⟨o,r⟩
 ·exact x a u r
 ·obtain⟨_,q⟩:=x a _ r
  exact q
def yA:Option HO->Prop
 | some (.lst _)=>True
 | some (.dK _)=>True
 | some (.dT _)=>True
 | some (.set _ _)=>True
 | some (.ins _ _ _)=>True
 | some (.ext _)=>True
 | _=>False
section
variable {P:Program}{w:World}{H:Hp}{h h':Heap}{x e:Addr}{o':HO}
theorem d7.write (ok:d7 P w H h)(mu:yA (H x))(he:e=x\/H e=some (.own x))(k:∀b u,b≠e->h.get? b=some u->h'.get? b=some u)(heo:∃u,h'.get? e=some u)
  (new:cy P w (upd H x o') h' x o'):d7 P w (upd H x o') h':=fun b u q=>by
 have nown:∀c y,H c=some (.own y)->c≠x:=fun c y r z=>by subst z;rw [r] at mu;exact mu
 have ntup:∀c xs,H c=some (.tup xs)->c≠x:=fun c xs r z=>by subst z;rw [r] at mu;exact mu
 by_cases hb:b=x
 ·subst hb;rw [af] at q;cases q;exact new
 ·rw [au hb] at q
  by_cases hbe:b=e
  ·have q':H b=some (.own x):=by
    rcases he with z | z
    ·exact absurd (hbe.trans z) hb
    ·rw [hbe];exact z
   rw [q] at q';cases q'
   obtain⟨v,hv⟩:=heo
   exact⟨v,by rw [hbe];exact hv⟩
  ·refine (ok b u q).oy (fun c v hc r=>k c v ?_ r) (fun c r=>by rw [au (nown c b r)];exact r) fun c xs r=>by rw [au (ntup c xs r)];exact r
   rcases hc with rfl | hc
   ·exact hbe
   ·rintro rfl
    rcases he with z | z
    ·exact nown c b hc z
    ·rw [hc] at z;cases z;exact hb rfl
end
structure Un (fs ex:List Addr) (H H':Hp) (h h':Heap):Prop where
 keep:∀b o,h.get? b=some o->H b=none->b∉fs->b∉ex->h'.get? b=some o
 slot:∀b o,h.get? b=some o->H b=none->b∈fs->b∉ex->∃sl,h'.get? b=some { o with slots:=sl }
 free:∀b o,h.get? b=some o->H b=none->b∉ex->H' b=none
 there:∀b o,h.get? b=some o->b∉ex->∃o',h'.get? b=some o'
 aK:∀b xs,H b=some (.tup xs)->H' b=some (.tup xs)
 iE:∀b o u,H b=some (.eU o u)->H' b=some (.eU o u)
 iX:∀b ps,H b=some (.lQ ps)->∃more,H' b=some (.lQ (ps++more))
section
variable {fs fs' ex ex':List Addr}{H H1 H2:Hp}{h h1 h2 h':Heap}{a x e:Addr}{o:HO}
theorem Un.any (u:Un fs ex H H1 h h1){b:Addr}{ob:Obj}(q:h.get? b=some ob)(n:H b=none)(hx:b∉ex):∃sl,h1.get? b=some { ob with slots:=sl }:=by
 by_cases hb:b∈fs
 ·exact u.slot b ob q n hb hx
 ·exact⟨ob.slots,u.keep b ob q n hb hx⟩
theorem Un.kept (k:∀b u,h.get? b=some u->h'.get? b=some u):Un fs ex H H h h' :=
 ⟨fun b ob q _ _ _=>k b ob q,fun b ob q _ _ _=>⟨ob.slots,k b ob q⟩,fun _ _ _ n _=>n,fun b ob q _=>⟨ob,k b ob q⟩,fun _ _ q=>q,fun _ _ _ q=>q,fun _ ps q=>⟨#[],by rw [q];simp⟩⟩
theorem Un.refl:Un fs ex H H h h:=Un.kept fun _ _ q=>q
theorem Un.laid (k:∀b u,h.get? b=some u->h'.get? b=some u)(hp:h.objs.size<=a)(hn:H a=none):Un fs ex H (upd H a o) h h' where
 keep:=fun b u q _ _ _=>k b u q
 slot:=fun b u q _ _ _=>⟨u.slots,k b u q⟩
 free:=fun b u q n _=>by rw [au (G0 (Hj (GU q) hp))];exact n
 there:=fun b u q _=>⟨u,k b u q⟩
 aK:=fun b xs q=>by rw [au (aG q hn)];exact q
 iE:=fun b u xs q=>by rw [au (aG q hn)];exact q
 iX:=fun b ps q=>⟨#[],by rw [au (aG q hn),q];simp⟩
theorem Un.write (mu:yA (H x))(he:e=x\/H e=some (.own x))(k:∀b u,b≠e->h.get? b=some u->h'.get? b=some u)(heo:∃u,h'.get? e=some u):Un fs ex H (upd H x o) h h':=by
  have hx:∀b,H b=none->b≠x:=fun b n z=>by subst z;rw [n] at mu;exact mu
  have hb:∀b,H b=none->b≠e:=fun b n z=>by
    subst z
    rcases he with r | r
    . exact hx b n r
    . rw [n] at r;cases r
  have hm:∀b u,H b=some u->¬yA (some u)->b≠x:=fun b u q nm z=>by subst z;rw [q] at mu;exact nm mu
  refine⟨fun b u q n _ _=>k b u (hb b n) q,fun b u q n _ _=>⟨u.slots,k b u (hb b n) q⟩,fun b u q n _=>by rw [au (hx b n)];exact n,fun b u q _=>?_,
    fun b xs q=>by rw [au (hm b _ q fun z=>z)];exact q,fun b u xs q=>by rw [au (hm b _ q fun z=>z)];exact q,fun b ps q=>⟨#[],by rw [au (hm b _ q fun z=>z),q];simp⟩⟩
  by_cases hbe:b=e
  . subst hbe;exact heo
  . exact⟨u,k b u hbe q⟩
end
def BU (h:Heap)(H:Hp):List Addr:=(Hs h.objs.size).filter fun a=>(H a).isSome
def kj (h:Heap)(H:Hp):Heap:=PySem.W.hideAll h (BU h H)
theorem yB (h:Heap)(H:Hp):(kj h H).objs.size=h.objs.size:=PySem.W.hideAll_size _ _
theorem Ad {h:Heap}{H:Hp}{b:Addr}{o:Obj}(e:h.get? b=some o)(n:H b=none):(kj h H).get? b=some o :=
 PySem.W.hideAll_get _ e fun hm=>by
  have q:(H b).isSome=true:=(HD.mp hm).2
  rw [n] at q;simp at q
theorem Cz {h:Heap}{H:Hp}{b:Addr}{o:Obj}(e:(kj h H).get? b=some o):h.get? b=some o/\H b=none:=by
 have e':h.get? b=some o:=PySem.W.of_hideAll (BU h H) e
 refine⟨e',?_⟩
 cases q:H b with
 | none=>rfl
 | some x =>
  have hm:b∈BU h H:=HD.mpr ⟨Ig.mpr (GU e'),by simp [q]⟩
  have z:(kj h H).get? b=none:=PySem.W.hideAll_none (BU h H) hm
  rw [z] at e;cases e
def CA (g h:Heap)(L:Addr):List (Addr×Obj):=(Hs h.objs.size).filterMap fun a=>if a=L\/(g.get? a).isSome=true then none else (h.get? a).map fun o=>(a,o)
def rest (g h:Heap)(L d:Addr):List (Addr×Obj):=(CA g h L).filter fun p=>decide (p.1≠d)
structure Mod (K:GP) (mg:Str->Option Value) (base:Heap):Prop where
 jX:K.In base
 glob:base.Ns mainGlobals mg
 blt:∃mb,base.Ns builtinsNs mb/\∀x:Str,x ≠ "__name__" -> mb x=bootBuiltins x
 nolimit:base.NoLimit
structure Cx where
 prog:Program
 w:World
 K:GP
 mg:Str->Option Value
 base:Heap
 A:Around
 N:List Str
 d5:Shared
 km:Hp
 env:Env
 outer:List Env
 stack:List Env
 ex:List Addr
 fn:Str->Bool
 calm:Bool
 pn:List (Addr×Obj)
 xe:Value->Shared->Prop
def lR (l:List Env):List Addr:=l.filterMap (·.frame)
abbrev Cx.fs (X:Cx):List Addr:=lR X.outer
def DA (sc:Scope)(x:Str):Prop:=sc.names.lookup x=some .local\/sc.names.lookup x=some .cell\/sc.names.lookup x=some .free
def Loc (sc:Scope)(x:Str):Prop:=sc.names.lookup x=some .local\/sc.names.lookup x=some .cell
def Look (env:Env)(h:Heap)(m:Str->Option Value)(x:Str)(u:Value):Prop :=
 (env.kindOf x=some .local/\m x=some u)\/((env.kindOf x=some .cell\/env.kindOf x=some .free)/\∃c,env.cells.lookup x=some c/\h.IsCell c (some u))
structure Cx.Ok (X:Cx):Prop where
 mod:Mod X.K X.mg X.base
 kind:X.env.scope.kind=.function
 glob:X.env.globals=mainGlobals
 blt:X.env.builtins=builtinsNs
 above:X.d5.heap.objs.size<=X.env.locals
 inj:∀x y c,X.env.cells.lookup x=some c->X.env.cells.lookup y=some c->x=y
 has:∀x,(X.env.kindOf x=some .cell\/X.env.kindOf x=some .free)->∃c,X.env.cells.lookup x=some c
 yC:∀x c,X.fn x=true->X.env.cells.lookup x=some c->X.d5.heap.objs.size<=c
 hd:X.calm=true->X.A.handled=none
 frames:X.A.frames=some X.stack
 BW:X.stack=X.outer\/(X.stack=X.env::X.outer/\X.env.frame=some X.env.locals)
 Fn:∀b∈X.ex,b≠X.env.locals/\∀x c,X.env.cells.lookup x=some c->c≠b
 bs:∀b o,X.base.get? b=some o->X.d5.heap.get? b=some o/\X.km b=none
 o6:X.base.objs.size<=X.d5.heap.objs.size
 tY:∀b o,X.base.get? b=some o->b∉X.ex
 xo:∀b∈X.ex,b∉X.fs
 iF:X.d5.heap.FunFrames X.base X.outer
 tZ:∀b∈X.fs,X.km b=none
structure Inv (X:Cx) (pins:List (Addr×Obj)) (GK : List (Option V)) (H:Hp) (s:Shared):Prop where
 ok:X.Ok
 os:s.os=X.d5.os
 bare:AllBare s.gens
 base:Un X.fs X.ex X.km H X.d5.heap s.heap
 loc:∃m,s.heap.Ns X.env.locals m/\∀(i:Nat) (x:Str) (v:V),X.N[i]?=some x->GK[i]?=some (some v)->DA X.env.scope x->∃u,RelV v u/\Look X.env s.heap m x u
 cell:∀x c,X.env.cells.lookup x=some c->∃v,s.heap.IsCell c v
 free:H X.env.locals=none
 fj:∀x c,X.env.cells.lookup x=some c->H c=none
 pin:∀p∈X.pn++pins,s.heap.get? p.1=some p.2/\H p.1=none/\p.1≠X.env.locals/\p.1∉X.fs/\∀v,p.2.data≠.cell v
 aW:d7 X.prog X.w H s.heap
 len:GK.length=X.N.length
section
variable {X:Cx}{pins:List (Addr×Obj)}{GK : List (Option V)}{H H':Hp}{s:Shared}{h':Heap}
theorem Cx.Ok.Fx (ok:X.Ok){b:Addr}{o:Obj}(e:X.base.get? b=some o):b∉X.fs:=fun hb=>by
 have:=(ok.iF.mem hb).1
 rw [e] at this;cases this
theorem Inv.bs (I:Inv X pins GK H s):∀b o,X.base.get? b=some o->s.heap.get? b=some o/\H b=none:=fun b o e =>
 ⟨I.base.keep b o (I.ok.bs b o e).1 (I.ok.bs b o e).2 (I.ok.Fx e) (I.ok.tY b o e),I.base.free b o (I.ok.bs b o e).1 (I.ok.bs b o e).2 (I.ok.tY b o e)⟩
theorem Inv.bk (I:Inv X pins GK H s):∀b o,X.base.get? b=some o->s.heap.get? b=some o:=fun b o e=>(I.bs b o e).1
theorem Inv.mod (I:Inv X pins GK H s):Mod X.K X.mg X.base:=I.ok.mod
theorem Inv.iK (I:Inv X pins GK H s):X.K.In s.heap:=I.ok.mod.jX.keeps I.bk
theorem Inv.lt (I:Inv X pins GK H s):X.env.locals<s.heap.objs.size:=let ⟨_,hn,_⟩:=I.loc;hn.lt
theorem Inv.sz (I:Inv X pins GK H s):X.d5.heap.objs.size<=s.heap.objs.size:=GY I.ok.above (Ht I.lt)
theorem Inv.Fy (I:Inv X pins GK H s){a:Addr}(h:s.heap.objs.size<=a):a∉X.fs:=fun hb=>by
 obtain⟨_,o,ho,_⟩:=I.ok.iF.mem hb
 exact absurd (Hj (GU ho) (GY I.sz h)) (Hf _)
theorem Inv.ua (I:Inv X pins GK H s):∀x c,X.env.cells.lookup x=some c->c≠X.env.locals:=fun x c e z=>by
 obtain⟨v,o,ho,hd⟩:=I.cell x c e
 obtain⟨m,⟨o',es,ep,ho',hd',_⟩,_⟩:=I.loc
 rw [z,ho'] at ho;cases ho;rw [hd'] at hd;cases hd
theorem Inv.iF (I:Inv X pins GK H s):s.heap.FunFrames X.base X.outer:=by
 have all:∀(l:List Env),(∀b∈lR l,b∈X.fs)->X.d5.heap.FunFrames X.base l->s.heap.FunFrames X.base l:=by
  intro l
  induction l with
  | nil=>intro _ _;trivial
  | cons env r ih =>
   intro hs hl
   obtain⟨hk,⟨L,o,hf,hn,ho,hd⟩,hr⟩:=hl
   have hL:L∈X.fs:=hs L (by unfold lR;rw [IB,hf];exact GZ)
   obtain⟨sl,e⟩:=I.base.slot L o ho (I.ok.tZ L hL) hL fun z=>I.ok.xo L z hL
   exact⟨hk,⟨L,_,hf,hn,e,hd⟩,ih (fun b hb=>hs b (by unfold lR;rw [IB,hf];exact G1 _ hb)) hr⟩
 exact all X.outer (fun _ hb=>hb) I.ok.iF
theorem Inv.stack (I:Inv X pins GK H s):s.heap.FunFrames X.base X.stack:=by
 rcases I.ok.BW with e | ⟨e,hf⟩
 ·rw [e];exact I.iF
 ·rw [e]
  obtain⟨m,hn,_⟩:=I.loc
  refine .cons (by rw [I.ok.kind];decide) hf hn ?_ I.iF
  exact Heap.get?_none_of_le (GY I.ok.o6 I.ok.above)
theorem Inv.o7 (I:Inv X pins GK H s):∀b∈lR X.stack,b∈X.env.locals::X.fs:=fun b hb=>by
 rcases I.ok.BW with e | ⟨e,hf⟩
 ·rw [e] at hb;exact G1 _ hb
 ·rw [e] at hb
  unfold lR at hb
  rw [IB,hf] at hb
  exact hb
theorem Inv.wb (I:Inv X pins GK H s):∀b∈lR X.stack,H b=none:=fun b hb=>by
 rcases GS.mp (I.o7 b hb) with e | hb
 ·rw [e];exact I.free
 ·obtain⟨_,o,ho,_⟩:=I.ok.iF.mem hb
  exact I.base.free b o ho (I.ok.tZ b hb) fun z=>I.ok.xo b z hb
theorem Inv.step {g':Array GenState}{t':Nat}{d':Drawn}{ch:List Addr}(I:Inv X pins GK H s)
  (hch:∀b∈ch,(b∈X.ex\/X.d5.heap.objs.size<=b)/\b≠X.env.locals/\(∀x c,X.env.cells.lookup x=some c->c≠b)/\∀p∈X.pn++pins,p.1≠b)
  (keep:∀b o,b≠X.env.locals->b∉X.fs->b∉ch->s.heap.get? b=some o->H b=none->h'.get? b=some o)
  (slot:∀b o,b≠X.env.locals->b∈X.fs->b∉ch->s.heap.get? b=some o->H b=none->∃sl,h'.get? b=some { o with slots:=sl }) (free:∀b o,b∉ch->s.heap.get? b=some o->H b=none->H' b=none)
  (there:∀b o,b∉ch->s.heap.get? b=some o->∃o',h'.get? b=some o')
  (aK:∀b xs,H b=some (.tup xs)->H' b=some (.tup xs)) (iE:∀b o u,H b=some (.eU o u)->H' b=some (.eU o u)) (iX:∀b ps,H b=some (.lQ ps)->∃more,H' b=some (.lQ (ps++more)))
  (ns:∀m,s.heap.Ns X.env.locals m->h'.Ns X.env.locals m) (aW:d7 X.prog X.w H' h') (hg:AllBare g') :
  Inv X pins GK H' { s with heap:=h',gens:=g',drawn:=d',toks:=t' }:=by
 have neL:∀b o,X.d5.heap.get? b=some o->b≠X.env.locals:=fun b o e=>G0 (Hj (GU e) I.ok.above)
 have neC:∀b o,X.d5.heap.get? b=some o->b∉X.ex->b∉ch:=fun b o e hx hb=>by
  rcases (hch b hb).1 with z | z
  ·exact hx z
  ·exact absurd (Hj (GU e) z) (Hf _)
 have cellK:∀x c,X.env.cells.lookup x=some c->∀v,s.heap.IsCell c v->h'.IsCell c v:=fun x c e v ⟨o,ho,hd⟩=>by
  have nch:c∉ch:=fun z=>(hch c z).2.2.1 x c e rfl
  by_cases hc:c∈X.fs
  ·obtain⟨sl,q⟩:=slot c o (I.ua x c e) hc nch ho (I.fj x c e)
   exact⟨_,q,hd⟩
  ·exact⟨o,keep c o (I.ua x c e) hc nch ho (I.fj x c e),hd⟩
 refine⟨I.ok,I.os,hg,⟨fun b o e n hb hx=>?_,fun b o e n hb hx=>?_,fun b o e n hx=>?_,fun b o e hx=>?_,fun b xs e=>aK b xs (I.base.aK b xs e),fun b o xs e=>iE b o xs (I.base.iE b o xs e),fun b ps e=>?_⟩,?_,fun x c e=>?_,?_,fun x c e=>?_,fun p hp=>?_,aW,I.len⟩
 ·exact keep b o (neL b o e) hb (neC b o e hx) (I.base.keep b o e n hb hx) (I.base.free b o e n hx)
 ·obtain⟨sl,e1⟩:=I.base.slot b o e n hb hx
  obtain⟨sl',e2⟩:=slot b _ (neL b o e) hb (neC b o e hx) e1 (I.base.free b o e n hx)
  exact⟨sl',e2⟩
 ·obtain⟨o',e1⟩:=I.base.there b o e hx
  exact free b o' (neC b o e hx) e1 (I.base.free b o e n hx)
 ·obtain⟨o',e1⟩:=I.base.there b o e hx
  exact there b o' (neC b o e hx) e1
 ·obtain⟨m1,e1⟩:=I.base.iX b ps e
  obtain⟨m2,e2⟩:=iX b _ e1
  exact⟨m1++m2,by rw [e2,Array.append_assoc]⟩
 ·obtain⟨m,hn,hl⟩:=I.loc
  refine⟨m,ns m hn,fun i x v e1 e2 e3=>?_⟩
  obtain⟨u,r,l⟩:=hl i x v e1 e2 e3
  refine⟨u,r,?_⟩
  rcases l with l | ⟨k,c,e,z⟩
  ·exact .inl l
  ·exact .inr ⟨k,c,e,cellK x c e _ z⟩
 ·obtain⟨v,z⟩:=I.cell x c e
  exact⟨v,cellK x c e v z⟩
 ·obtain⟨m,⟨o,_,_,ho,_⟩,_⟩:=I.loc
  exact free _ o (fun z=>(hch _ z).2.1 rfl) ho I.free
 ·obtain⟨v,o,ho,hd⟩:=I.cell x c e
  exact free c o (fun z=>(hch c z).2.2.1 x c e rfl) ho (I.fj x c e)
 ·obtain⟨e,n,ne,nf,d⟩:=I.pin p hp
  have nch:p.1∉ch:=fun z=>(hch p.1 z).2.2.2 p hp rfl
  exact⟨keep p.1 p.2 ne nf nch e n,free p.1 p.2 nch e n,ne,nf,d⟩
theorem Inv.un {t':Nat}(I:Inv X pins GK H s)(u:Un X.fs [] H H' s.heap h')(aW:d7 X.prog X.w H' h'):Inv X pins GK H' { s with heap:=h',toks:=t' }:=by
  obtain⟨m,⟨o,es,ep,ho,r⟩,_⟩:=id I.loc
  obtain⟨sl,hL⟩:=u.any ho I.free (by simp)
  exact I.step (g':=s.gens) (d':=s.drawn) (ch:=[]) (fun _ z=>nomatch z) (fun b o _ hb _ e n=>u.keep b o e n hb (by simp)) (fun b o _ hb _ e n=>u.slot b o e n hb (by simp)) (fun b o _ e n=>u.free b o e n (by simp)) (fun b o _ e=>u.there b o e (by simp)) u.aK u.iE u.iX (fun m' hm=>by
    obtain⟨o',es',ep',ho',r'⟩:=hm
    rw [ho] at ho';cases ho'
    exact⟨_,es',ep',hL,r'⟩) aW I.bare
theorem Inv.call {g':Array GenState}{t':Nat}{d':Drawn}{ch:List Addr}(I:Inv X pins GK H s)(u:Un (lR X.stack) ch H H' s.heap h')(aW:d7 X.prog X.w H' h')(hg:AllBare g')
  (hch:∀b∈ch,(b∈X.ex\/X.d5.heap.objs.size<=b)/\b≠X.env.locals/\(∀x c,X.env.cells.lookup x=some c->c≠b)/\∀p∈X.pn++pins,p.1≠b) :
  Inv X pins GK H' { s with heap:=h',gens:=g',drawn:=d',toks:=t' }:=by
 obtain⟨m,⟨o,es,ep,ho,r⟩,_⟩:=id I.loc
 obtain⟨sl,hL⟩:=u.any ho I.free fun z=>(hch _ z).2.1 rfl
 exact I.step (ch:=ch) hch (fun b o hL hb hc e n=>u.keep b o e n (fun z=>(GS.mp (I.o7 b z)).elim hL hb) hc) (fun b o _ _ hc e n=>u.any e n hc) (fun b o hc e n=>u.free b o e n hc) (fun b o hc e=>u.there b o e hc) u.aK u.iE u.iX (fun m' hm=>by
  obtain⟨o',es',ep',ho',r'⟩:=hm
  rw [ho] at ho';cases ho'
  exact⟨_,es',ep',hL,r'⟩) aW hg
theorem Inv.turned {t':Nat}{it:Addr}(I:Inv X pins GK H s)(k:∀b o,b≠it->s.heap.get? b=some o->h'.get? b=some o)(hn:H it=none)(hL:it≠X.env.locals)
  (h1:it∈X.ex\/X.d5.heap.objs.size<=it) (h2:∀x c,X.env.cells.lookup x=some c->c≠it) (h3:∀p∈X.pn++pins,p.1≠it):Inv X pins GK H { s with heap:=h',toks:=t' }:=by
 have nit:∀b u,H b=some u->b≠it:=fun b u e z=>by rw [z,hn] at e;cases e
 refine I.step (g':=s.gens) (d':=s.drawn) (ch:=[it]) (fun b hb=>?_) (fun b o _ _ hc e _=>k b o (fun z=>hc (by simp [z])) e) (fun b o _ _ hc e _=>⟨o.slots,k b o (fun z=>hc (by simp [z])) e⟩) (fun _ _ _ _ n=>n)
  (fun b o hc e=>⟨o,k b o (fun z=>hc (by simp [z])) e⟩) (fun _ _ e=>e) (fun _ _ _ e=>e) (fun b ps e=>⟨#[],by rw [e];simp⟩) (fun m hm=>?_) (fun b u e=>?_) I.bare
 ·have e:b=it:=by simpa using hb
  subst e
  exact⟨h1,hL,h2,h3⟩
 ·obtain⟨o,es,ep,ho,r⟩:=hm
  exact⟨o,es,ep,k _ o (Ne.symm hL) ho,r⟩
 ·refine (I.aW b u e).oy (fun c v hc q=>k c v ?_ q) (fun _ q=>q) fun _ _ q=>q
  rcases hc with z | z
  ·rw [z];exact nit b u e
  ·exact nit c _ z
theorem Inv.tok (I:Inv X pins GK H s)(t:Nat):Inv X pins GK H { s with toks:=t }:=I.un (h':=s.heap) (t':=t) Un.refl I.aW
theorem Inv.kept {t':Nat}(I:Inv X pins GK H s)(k:∀b u,s.heap.get? b=some u->h'.get? b=some u):Inv X pins GK H { s with heap:=h',toks:=t' }:=I.un (Un.kept k) (I.aW.kept k)
theorem Inv.laid {a:Addr}{o:HO}{t':Nat}(I:Inv X pins GK H s)(k:∀b u,s.heap.get? b=some u->h'.get? b=some u)(hp:s.heap.objs.size<=a)(new:cy X.prog X.w (upd H a o) h' a o) :
  Inv X pins GK (upd H a o) { s with heap:=h',toks:=t' }:=I.un (Un.laid k hp (I.aW.fresh hp)) (I.aW.laid k hp new)
theorem Inv.write {x e:Addr}{o:HO}{t':Nat}(I:Inv X pins GK H s)(mu:yA (H x))(he:e=x\/H e=some (.own x))(k:∀b u,b≠e->s.heap.get? b=some u->h'.get? b=some u)(heo:∃u,h'.get? e=some u)
  (new:cy X.prog X.w (upd H x o) h' x o):Inv X pins GK (upd H x o) { s with heap:=h',toks:=t' }:=I.un (Un.write mu he k heo) (I.aW.write mu he k heo new)
theorem Inv.wc {pins':List (Addr×Obj)}(I:Inv X pins GK H s)(h:∀p∈pins',s.heap.get? p.1=some p.2/\H p.1=none/\p.1≠X.env.locals/\p.1∉X.fs/\∀v,p.2.data≠.cell v):Inv X pins' GK H s :=
 ⟨I.ok,I.os,I.bare,I.base,I.loc,I.cell,I.free,I.fj,fun p hp=>(Hd.mp hp).elim (fun z=>I.pin p (Hv _ z)) (h p),I.aW,I.len⟩
theorem ub {N:List Str}(hN:N.Nodup){i j:Nat}{x:Str}(a:N[i]?=some x)(b:N[j]?=some x):i=j:=by
 obtain⟨h1,e1⟩:=G7.mp a
 obtain⟨h2,e2⟩:=G7.mp b
 exact (List.getElem_inj hN).mp (e1.trans e2.symm)
theorem rT {M:Model}{A:Around}{E:Value->Shared->Prop}{i:Nat}{x:Str}{v:V}{u:Value}{Q:Unit->Shared->Prop}(I:Inv X pins GK H s)(hN:X.N.Nodup)(hi:X.N[i]?=some x)(hx:Loc X.env.scope x)(r:RelV v u)
  (h:∀s',Inv X pins (GK.set i (some v)) H s'->(∃a,Hk a s.heap s'.heap/\(a=X.env.locals\/X.env.cells.lookup x=some a))->Q () s') (hf:X.fn x=true\/X.env.scope.names.lookup x=some .local:=by first | exact .inl rfl | exact .inr rfl | assumption):wpAny M A (storeName X.env x u) Q E s:=by
 obtain⟨m,hn,hl⟩:=id I.loc
 have hcls:(X.env.scope.kind == .class||(X.env.scope.kind == .module&&X.env.locals != X.env.globals))=false:=by rw [I.ok.kind];rfl
 have hiσ : i<GK.length:=by rw [I.len];exact (G7.mp hi).1
 have ua:=I.ua
 have tracked:∀{a:Addr} {h':Heap},(∃o,s.heap.get? a=some o/\H a=none)->Hk a s.heap h'->d7 X.prog X.w H h':=fun {a h'} ha hs b ob e=>by
  obtain⟨_,_,hfree⟩:=ha
  refine (I.aW b ob e).oy (fun c w' hc q=>(hs.2 c ?_).trans q) (fun _ q=>q) fun _ _ q=>q
  rintro rfl
  rcases hc with rfl | hc
  ·rw [hfree] at e;cases e
  ·rw [hfree] at hc;cases hc
 rcases hx with hk | hk
 ·refine wpAny_storeName_local hk hn (fun h' hn' hs=>?_) hcls
  obtain⟨oL,_,_,hoL,_⟩:=id hn
  refine h _ ⟨I.ok,I.os,I.bare,⟨fun b o e n hb hx=>?_,fun b o e n hb hx=>?_,I.base.free,fun b o e hx=>?_,I.base.aK,I.base.iE,I.base.iX⟩,⟨_,hn',fun j y v' e1 e2 e3=>?_⟩,fun y c e=>?_,I.free,I.fj,fun p hp=>?_,tracked ⟨oL,hoL,I.free⟩ hs,by simpa using I.len⟩ ⟨_,hs,.inl rfl⟩
  ·exact (hs.2 b (G0 (Hj (GU e) I.ok.above))).trans (I.base.keep b o e n hb hx)
  ·obtain⟨sl,e1⟩:=I.base.slot b o e n hb hx
   exact⟨sl,(hs.2 b (G0 (Hj (GU e) I.ok.above))).trans e1⟩
  ·obtain⟨o',e1⟩:=I.base.there b o e hx
   exact⟨o',(hs.2 b (G0 (Hj (GU e) I.ok.above))).trans e1⟩
  ·by_cases hj:j=i
   ·subst hj
    rw [hi] at e1;cases e1
    rw [List.getElem?_set_self hiσ] at e2
    cases e2
    exact⟨u,r,.inl ⟨hk,by simp⟩⟩
   ·rw [List.getElem?_set_ne (Ne.symm hj)] at e2
    obtain⟨u',r',q⟩:=hl j y v' e1 e2 e3
    refine⟨u',r',?_⟩
    rcases q with ⟨k,e⟩ | ⟨k,c,e,z⟩
    ·refine .inl ⟨k,?_⟩
     have:y≠x:=fun e=>hj (ub hN e1 (e ▸ hi))
     simp [this,e]
    ·exact .inr ⟨k,c,e,z.sameBut hs (ua y c e)⟩
  ·obtain⟨w',z⟩:=I.cell y c e
   exact⟨w',z.sameBut hs (ua y c e)⟩
  ·obtain⟨e,n,ne,nf,d⟩:=I.pin p hp
   exact⟨(hs.2 p.1 ne).trans e,n,ne,nf,d⟩
 ·have hfn:X.fn x=true:=by
   rcases hf with z | z
   ·exact z
   ·rw [z] at hk;cases hk
  obtain⟨c,hc⟩:=I.ok.has x (.inl hk)
  obtain⟨w',z⟩:=I.cell x c hc
  refine wpAny_storeName_cell I.ok.kind hk hc z (fun h' hc' hs=>?_)
  obtain⟨oc,hoc,hocd⟩:=id z
  refine h { s with heap:=h' } ⟨I.ok,I.os,I.bare,⟨fun b o e n hb hx=>?_,fun b o e n hb hx=>?_,I.base.free,fun b o e hx=>?_,I.base.aK,I.base.iE,I.base.iX⟩,⟨m,hn.sameBut hs (Ne.symm (ua x c hc)),fun j y v' e1 e2 e3=>?_⟩,fun y c' e=>?_,I.free,I.fj,fun p hp=>?_,tracked ⟨oc,hoc,I.fj x c hc⟩ hs,by simpa using I.len⟩ ⟨c,hs,.inr hc⟩
  ·exact (hs.2 b (G0 (Hj (GU e) (I.ok.yC x c hfn hc)))).trans (I.base.keep b o e n hb hx)
  ·obtain⟨sl,e1⟩:=I.base.slot b o e n hb hx
   exact⟨sl,(hs.2 b (G0 (Hj (GU e) (I.ok.yC x c hfn hc)))).trans e1⟩
  ·obtain⟨o',e1⟩:=I.base.there b o e hx
   exact⟨o',(hs.2 b (G0 (Hj (GU e) (I.ok.yC x c hfn hc)))).trans e1⟩
  ·by_cases hj:j=i
   ·subst hj
    rw [hi] at e1;cases e1
    rw [List.getElem?_set_self hiσ] at e2
    cases e2
    exact⟨u,r,.inr ⟨.inl hk,c,hc,hc'⟩⟩
   ·rw [List.getElem?_set_ne (Ne.symm hj)] at e2
    obtain⟨u',r',q⟩:=hl j y v' e1 e2 e3
    refine⟨u',r',?_⟩
    rcases q with q | ⟨k,c',e,z'⟩
    ·exact .inl q
    ·refine .inr ⟨k,c',e,z'.sameBut hs ?_⟩
     rintro rfl
     exact hj (ub hN e1 (I.ok.inj _ _ _ e hc ▸ hi))
  ·by_cases hcc:c' = c
   ·subst hcc;exact⟨_,hc'⟩
   ·obtain⟨w2,z2⟩:=I.cell y c' e
    exact⟨w2,z2.sameBut hs hcc⟩
  ·obtain⟨e,n,ne,nf,d⟩:=I.pin p hp
   refine⟨(hs.2 p.1 ?_).trans e,n,ne,nf,d⟩
   intro q
   rw [q,hoc] at e
   have q':oc=p.2:=G5.inj e
   exact d w' (by rw [<-q'];exact hocd)
theorem kn {M:Model}{A:Around}{E:Value->Shared->Prop}{i:Nat}{x:Str}{v:V}{u:Value}{Q:Unit->Shared->Prop}(I:Inv X pins GK H s)(hN:X.N.Nodup)(hi:X.N[i]?=some x)(hx:Loc X.env.scope x)(r:RelV v u)
  (h:∀s',Inv X pins (GK.set i (some v)) H s'->Q () s') (hf:X.fn x=true\/X.env.scope.names.lookup x=some .local:=by first | exact .inl rfl | exact .inr rfl | assumption):wpAny M A (storeName X.env x u) Q E s :=
 rT I hN hi hx r (fun s' I' _=>h s' I') hf
theorem Inv.ET {s':Shared}{ch:List Addr}(I:Inv X pins GK H s)(ho:s'.os=s.os)(u:Un (lR X.stack) ch H H' s.heap s'.heap)(aW:d7 X.prog X.w H' s'.heap)(hg:AllBare s'.gens)
  (hch:∀b∈ch,(b∈X.ex\/X.d5.heap.objs.size<=b)/\b≠X.env.locals/\(∀x c,X.env.cells.lookup x=some c->c≠b)/\∀p∈X.pn++pins,p.1≠b):Inv X pins GK H' s':=by
 obtain⟨h',g',d',t',o'⟩:=s'
 have e:o' = s.os:=ho
 subst e
 exact I.call (g':=g') (t':=t') (d':=d') u aW hg hch
end
abbrev XK:=Value->Option Addr->Hp->Prop
abbrev St:=List (Option V)
abbrev VK:=V->Hp->Prop
abbrev TE:=St->Hp->VK->Prop
abbrev TT:=St->Hp->(Bool->Hp->Prop)->Prop
abbrev TA:=St->Hp->(List V->Hp->Prop)->Prop
structure Ends where
 nx:St->Hp->Prop
 rt:VK
 bk:St->Hp->Prop:=fun _ _=>False
 ct:St->Hp->Prop:=fun _ _=>False
abbrev TS:=Ends->St->Hp->Prop
def EP (X:Cx)(pins:List (Addr×Obj))(GK : St)(Q:VK)(u:Value)(s':Shared):Prop:=∃v H',Inv X pins GK H' s'/\RelV v u/\Q v H'
def TP (X:Cx)(pins:List (Addr×Obj))(GK : St)(Q:Bool->Hp->Prop)(b:Bool)(s':Shared):Prop:=∃H',Inv X pins GK H' s'/\Q b H'
def AP (X:Cx)(pins:List (Addr×Obj))(GK : St)(Q:List V->Hp->Prop)(us:List Value)(s':Shared):Prop:=∃vs H',Inv X pins GK H' s'/\Vals vs us/\Q vs H'
def SP (X:Cx)(pins:List (Addr×Obj))(D:Ends)(f:Flow)(s':Shared):Prop :=
 match f with
 | .next=>∃σ' H',Inv X pins σ' H' s'/\D.nx σ' H'
 | .brk=>∃σ' H',Inv X pins σ' H' s'/\D.bk σ' H'
 | .cont=>∃σ' H',Inv X pins σ' H' s'/\D.ct σ' H'
 | .ret u=>∃v σ' H',Inv X pins σ' H' s'/\RelV v u/\D.rt v H'
def PE (X:Cx)(e:Expr)(t:TE):Prop :=
 ∀(pins:List (Addr×Obj)) (s:Shared) (GK : St) (H:Hp) (Q:VK),Inv X pins GK H s->t GK H Q->wpAny (model X.prog X.w) X.A (eval e X.env) (EP X pins GK Q) X.xe s
def PT (X:Cx)(e:Expr)(t:TT):Prop :=
 ∀(pins:List (Addr×Obj)) (s:Shared) (GK : St) (H:Hp) (Q:Bool->Hp->Prop),Inv X pins GK H s->t GK H Q->wpAny (model X.prog X.w) X.A (isTrue e X.env (eval e X.env)) (TP X pins GK Q) X.xe s
def PW (X:Cx)(e:Expr)(t:TT):Prop :=
 ∀(whole:Sem Value) (pins:List (Addr×Obj)) (s:Shared) (GK : St) (H:Hp) (Q:Bool->Hp->Prop),Inv X pins GK H s->t GK H Q->wpAny (model X.prog X.w) X.A (isTrue e X.env whole) (TP X pins GK Q) X.xe s
theorem PW.pt {X:Cx}{e:Expr}{t:TT}(h:PW X e t):PT X e t:=h _
def PA (X:Cx)(es:List Expr)(t:TA):Prop :=
 ∀(pos:Pos) (pins:List (Addr×Obj)) (s:Shared) (GK : St) (H:Hp) (Q:List V->Hp->Prop),Inv X pins GK H s->t GK H Q->wpAny (model X.prog X.w) X.A (spliced (backTo pos (starEach es X.env))) (AP X pins GK Q) X.xe s
def PS (X:Cx)(st:Stmt)(t:TS):Prop :=
 ∀(pins:List (Addr×Obj)) (s:Shared) (GK : St) (H:Hp) (D:Ends),Inv X pins GK H s->t D GK H->wpAny (model X.prog X.w) X.A (exec st X.env) (SP X pins D) X.xe s
def iY (X:Cx)(st:List Stmt)(t:TS):Prop :=
 ∀(pins:List (Addr×Obj)) (s:Shared) (GK : St) (H:Hp) (D:Ends),Inv X pins GK H s->t D GK H->wpAny (model X.prog X.w) X.A (execs st X.env) (SP X pins D) X.xe s
theorem bg {α : Type}{t:Sem α}{Q Q':α->Shared->Prop}{M:Model}{A:Around}{E:Value->Shared->Prop}{s:Shared}(h:wpAny M A t Q E s)(hQ:∀a s,Q a s->Q' a s):wpAny M A t Q' E s:=Jz h hQ fun _ _ x=>x
section
variable {X:Cx}
def uc (i:Nat):TE:=fun GK H Q=>∃v,GK[i]?=some (some v)/\Q v H
def tC (v:V):TE:=fun _ H Q=>Q v H
theorem DB {i:Nat} {x:Str} {pos:Pos} (hN:X.N[i]?=some x) (hv:DA X.env.scope x) (hd:(x == ("__debug__" : Str))=false:=by decide) (hcd:(x == ("__classdict__" : Str))=false:=by decide):PE X (.Name x pos) (uc i):=by
 intro pins s GK H Q I h
 obtain⟨v,e,h⟩:=h
 obtain⟨m,hn,hl⟩:=I.loc
 obtain⟨u,r,l⟩:=hl i x v hN e hv
 have fin:EP X pins GK Q u s:=⟨v,H,I,r,h⟩
 rcases l with ⟨hk,hm⟩ | ⟨hk,c,hc,hcell⟩
 ·exact wpAny_Name (wpAny_loadName_local I.ok.kind hk hn hm fin) hd
 ·rcases hk with hk | hk
  ·exact wpAny_Name (wpAny_loadName_cell I.ok.kind hk hc hcell fin) hd
  ·exact wpAny_Name (wpAny_loadName_free I.ok.kind hk hc hcell fin hcd) hd
theorem ah {i j pos}:PE X (.Constant (.int i) j pos) (tC (.int i)):=fun _ _ _ H _ I h=>wpAny_Constant_int ⟨.int i,H,I.tok _,⟨_,rfl⟩,h⟩
theorem fS {b j pos}:PE X (.Constant (.bool b) j pos) (tC (.bl b)):=fun _ _ _ H _ I h=>Constant_bool ⟨.bl b,H,I,rfl,h⟩
theorem en {j pos}:PE X (.Constant .none j pos) (tC .bC):=fun _ _ _ H _ I h=>Constant_none ⟨.bC,H,I,rfl,h⟩
theorem bh {x j pos}:PE X (.Constant (.str x) j pos) (tC (.str x)):=fun _ _ _ H _ I h=>Calls.Constant_str ⟨.str x,H,I.tok _,⟨_,rfl⟩,h⟩
def Gl (X:Cx)(x:Str):Prop:=X.env.kindOf x=some .globalImplicit
theorem qE {E:Value->Shared->Prop}{pins:List (Addr×Obj)}{s:Shared}{GK : St}{H:Hp}{x:Str}{u:Value}{pos:Pos}{Q:Value->Shared->Prop}(I:Inv X pins GK H s)(hg:Gl X x)(hm:X.mg x=some u)(h:Q u s)
  (hd:(x == ("__debug__" : Str))=false:=by decide):wpAny (model X.prog X.w) X.A (eval (.Name x pos) X.env) Q E s :=
 Calls.Name_function_global I.ok.kind hg (Calls.loadGlobal_global (by rw [I.ok.glob];exact I.mod.glob.keeps I.bk) hm h) hd
theorem jY {E:Value->Shared->Prop}{pins:List (Addr×Obj)}{s:Shared}{GK : St}{H:Hp}{x:Str}{u:Value}{pos:Pos}{Q:Value->Shared->Prop}(I:Inv X pins GK H s)(hg:Gl X x)(hm:X.mg x=none)(hv:bootBuiltins x=some u)(h:Q u s)
  (hn:x ≠ "__name__" := by decide) (hd:(x == ("__debug__" : Str))=false:=by decide):wpAny (model X.prog X.w) X.A (eval (.Name x pos) X.env) Q E s:=by
 obtain⟨mb,h1,h2⟩:=I.mod.blt
 exact Calls.Name_function_global I.ok.kind hg (Calls.loadGlobal_builtin (by rw [I.ok.glob];exact I.mod.glob.keeps I.bk) hm (by rw [I.ok.blt];exact h1.keeps I.bk) ((h2 x hn).trans hv) h) hd
theorem fT {x:Str} {v:V} {u:Value} {pos:Pos} (hg:Gl X x) (hm:X.mg x=some u) (r:RelV v u) (hd:(x == ("__debug__" : Str))=false:=by decide):PE X (.Name x pos) (tC v) :=
 fun _ _ _ H _ I h=>qE I hg hm ⟨v,H,I,r,h⟩ hd
variable {a b:Expr}{ta tb:TE}{pos:Pos}
def PC (X:Cx)(op:CmpOp)(a b:Expr)(t:TE):Prop :=
 ∀(pins:List (Addr×Obj)) (s:Shared) (GK : St) (H:Hp) (Q:VK),Inv X pins GK H s->t GK H Q ->
  wpAny (model X.prog X.w) X.A (eval a X.env) (fun v s₁=>wpAny (model X.prog X.w) X.A (eval b X.env) (fun u s₂=>wpAny (model X.prog X.w) X.A (compareOp op v u) (EP X pins GK Q) X.xe s₂) X.xe s₁) X.xe s
theorem ud (b:Expr){op:CmpOp}(h:op≠.In)(h2:op≠.NotIn):behindInMarks op b=false:=by
 have e1:(op == CmpOp.In)=false:=by cases op <;> first | rfl | exact absurd rfl h
 have e2:(op == CmpOp.NotIn)=false:=by cases op <;> first | rfl | exact absurd rfl h2
 cases b <;> simp [behindInMarks,e1,e2]
def Fz (ta:TE):TE:=fun GK H Q=>ta GK H fun x H1=>Q (.bl (decide (x=.bC))) H1
def EU (ta:TE):TE:=fun GK H Q=>ta GK H fun x H1=>Q (.bl (!decide (x=.bC))) H1
theorem RelV.ue {x:V}{v:Value}(r:RelV x v):(v == Value.none)=decide (x=.bC):=by
 cases x with
 | bC=>cases r;rfl
 | bl _=>cases r;rfl
 | int _=>obtain⟨t,rfl⟩:=r;rfl
 | str _=>obtain⟨t,rfl⟩:=r;rfl
 | iW _=>obtain⟨t,rfl⟩:=r;rfl
 | yz _=>obtain⟨t,rfl⟩:=r;rfl
 | ref _=>cases r;rfl
 | ty _=>cases r;rfl
theorem gF {j pos'}(ha:PE X a ta):PC X .Is a (.Constant .none j pos') (Fz ta):=by
 intro pins s GK H Q I h
 refine bg (ha pins s GK H _ I h) fun v s1 ⟨x,H1,I1,r1,q1⟩=>?_
 exact Constant_none (is_none_gen ⟨.bl _,H1,I1,by rw [r1.ue];rfl,q1⟩)
theorem gu {j pos'}(ha:PE X a ta):PC X .IsNot a (.Constant .none j pos') (EU ta):=by
 intro pins s GK H Q I h
 refine bg (ha pins s GK H _ I h) fun v s1 ⟨x,H1,I1,r1,q1⟩=>?_
 exact Constant_none (isnot_none_gen ⟨.bl _,H1,I1,by rw [r1.ue];rfl,q1⟩)
def tB (t:TE):TT:=fun GK H Q=>t GK H fun x H1=>∃c,x=.bl c/\Q c H1
theorem jZ {op:CmpOp}{t:TE}(h:PC X op a b t)(h1:behindInMarks op b=false:=by first | exact ud _ (by decide) (by decide) | rfl):PE X (.Compare a [op] [b] pos) t:=fun pins s GK H Q I hw=>wpAny_Compare1 (h pins s GK H Q I hw) h1
theorem fH {op:CmpOp}{t:TE}(h:PC X op a b t)(h1:behindInMarks op b=false:=by first | exact ud _ (by decide) (by decide) | rfl):PT X (.Compare a [op] [b] pos) (tB t):=by
 intro pins s GK H Q I hw
 refine wpAny_isTrue_Compare1 (bg (h pins s GK H _ I hw) fun v s1 h1=>bg h1 fun u s2 h2=>bg h2 fun c s3 ⟨x,H1,I1,r1,q1⟩=>?_) h1
 obtain⟨d,rfl,q⟩:=q1
 cases r1
 exact JJ ⟨H1,I1,q⟩
theorem iZ {e:Expr}{t:TE}(h:PE X e t)(he:∀whole,isTrue e X.env whole=(do let v <-whole;standAt e.pos;holding [v] (truthy v)):=by intro _;rfl):PT X e (tB t):=by
 intro pins s GK H Q I hw
 refine isTrue_plain (bg (h pins s GK H _ I hw) fun v s1 ⟨x,H1,I1,r1,q1⟩=>?_) (he _)
 obtain⟨d,rfl,q⟩:=q1
 cases r1
 exact JJ ⟨H1,I1,q⟩
variable {tA tB':TT}{rest:List Expr}
def FA (t u:TT):TT:=fun GK H Q=>t GK H fun c H1=>if c=true then u GK H1 Q else Q false H1
def Gk (t u:TT):TT:=fun GK H Q=>t GK H fun c H1=>if c=true then Q true H1 else u GK H1 Q
def FC (t:TT):TT:=fun GK H Q=>t GK H fun c H1=>Q (!c) H1
theorem d9 (ha:PT X a tA):PW X (.BoolOp .And [a] pos) tA:=by
 intro wh pins s GK H Q I h
 refine isTrue_and (bg (ha pins s GK H Q I h) fun c s1 e=>?_)
 cases c with
 | true=>exact isTrue_and_nil e
 | false=>exact e
theorem j0 (ha:PT X a tA):PW X (.BoolOp .Or [a] pos) tA:=by
 intro wh pins s GK H Q I h
 refine isTrue_or (bg (ha pins s GK H Q I h) fun c s1 e=>?_)
 cases c with
 | false=>exact isTrue_or_nil e
 | true=>exact e
theorem eZ (ha:PT X a tA)(hb:PW X (.BoolOp .And (b::rest) pos) tB'):PW X (.BoolOp .And (a::b::rest) pos) (FA tA tB'):=by
 intro wh pins s GK H Q I h
 refine isTrue_and (bg (ha pins s GK H _ I h) fun c s1 ⟨H1,I1,q1⟩=>?_)
 cases c with
 | true=>exact hb wh pins s1 GK H1 Q I1 q1
 | false=>exact⟨H1,I1,q1⟩
theorem m7 (ha:PT X a tA)(hb:PW X (.BoolOp .Or (b::rest) pos) tB'):PW X (.BoolOp .Or (a::b::rest) pos) (Gk tA tB'):=by
 intro wh pins s GK H Q I h
 refine isTrue_or (bg (ha pins s GK H _ I h) fun c s1 ⟨H1,I1,q1⟩=>?_)
 cases c with
 | true=>exact⟨H1,I1,q1⟩
 | false=>exact hb wh pins s1 GK H1 Q I1 q1
theorem o8 (ha:PT X a tA):PT X (.UnaryOp .Not a pos) (FC tA):=by
 intro pins s GK H Q I h
 exact isTrue_not (ha pins s GK H (fun c H1=>Q (!c) H1) I h)
def EV (ta tb:TE):TE:=fun GK H Q=>ta GK H fun x H1=>∃c,x=.bl c/\if c=true then tb GK H1 Q else Q (.bl false) H1
def FE (ta tb:TE):TE:=fun GK H Q=>ta GK H fun x H1=>∃c,x=.bl c/\if c=true then Q (.bl true) H1 else tb GK H1 Q
theorem fI {op}{t:TE}(h:PE X a t):PE X (.BoolOp op [a] pos) t:=fun pins s GK H Q I hw=>BoolOp_one (h pins s GK H Q I hw)
theorem iu (ha:PE X a ta)(hb:PE X (.BoolOp .And (b::rest) pos) tb):PE X (.BoolOp .And (a::b::rest) pos) (EV ta tb):=by
 intro pins s GK H Q I h
 refine BoolOp_and (bg (ha pins s GK H _ I h) fun v s1 ⟨x,H1,I1,r1,q1⟩=>?_)
 obtain⟨c,rfl,q1⟩:=q1
 cases r1
 refine JJ ?_
 cases c with
 | true=>exact hb pins s1 GK H1 Q I1 q1
 | false=>exact⟨.bl false,H1,I1,rfl,q1⟩
theorem tQ (ha:PE X a ta)(hb:PE X (.BoolOp .Or (b::rest) pos) tb):PE X (.BoolOp .Or (a::b::rest) pos) (FE ta tb):=by
 intro pins s GK H Q I h
 refine BoolOp_or (bg (ha pins s GK H _ I h) fun v s1 ⟨x,H1,I1,r1,q1⟩=>?_)
 obtain⟨c,rfl,q1⟩:=q1
 cases r1
 refine JJ ?_
 cases c with
 | false=>exact hb pins s1 GK H1 Q I1 q1
 | true=>exact⟨.bl true,H1,I1,rfl,q1⟩
def Gm (t:TT)(ta tb:TE):TE:=fun GK H Q=>t GK H fun c H1=>if c=true then ta GK H1 Q else tb GK H1 Q
theorem fJ {c:Expr}(hc:PT X c tA)(ha:PE X a ta)(hb:PE X b tb):PE X (.IfExp c a b pos) (Gm tA ta tb):=by
 intro pins s GK H Q I h
 refine wpAny_IfExp (bg (hc pins s GK H _ I h) fun d s1 ⟨H1,I1,q1⟩=>?_)
 cases d with
 | true=>exact ha pins s1 GK H1 Q I1 q1
 | false=>exact hb pins s1 GK H1 Q I1 q1
end
def aU (K:GP)(H:Hp)(a:Addr)(xs:List V):Prop :=
 Rd H a (.lst xs) \/
  ∃(o:Obj) (its:Array Value) (n:Nat),K.lookup a=some o/\o.cls=.type "list" /\ o.dict=none/\o.data=.seq its n/\its.size<=sizeLine/\Vals xs its.toList
def av (K:GP)(H:Hp)(a:Addr)(xs:List V):Prop :=
 Rd H a (.tup xs) \/
  ∃(o:Obj) (its:Array Value) (n:Nat),K.lookup a=some o/\o.cls=.type "tuple" /\ o.data=.seq its n/\its.size<=sizeLine/\Vals xs its.toList
def FF:Value->Option V
 | .none=>some .bC
 | .bool b=>some (.bl b)
 | .int i _=>some (.int i)
 | .str x _=>some (.str x)
 | .bytes b _=>some (.iW b)
 | .float b _=>some (.yz b)
 | .ref a=>some (.ref a)
 | .type n=>some (.ty n)
 | _=>none
theorem RelV.abs {x:V}{u:Value}(r:RelV x u):FF u=some x:=by
 cases x with
 | bC=>cases r;rfl
 | bl _=>cases r;rfl
 | int _=>obtain⟨t,rfl⟩:=r;rfl
 | str _=>obtain⟨t,rfl⟩:=r;rfl
 | iW _=>obtain⟨t,rfl⟩:=r;rfl
 | yz _=>obtain⟨t,rfl⟩:=r;rfl
 | ref _=>cases r;rfl
 | ty _=>cases r;rfl
theorem RelV.inj {x y:V}{u:Value}(r:RelV x u)(q:RelV y u):x=y:=G5.inj (r.abs.symm.trans q.abs)
theorem Vals.inj:∀{xs ys:List V} {us:List Value},Vals xs us->Vals ys us->xs=ys
 | _,_,_,.nil,.nil=>rfl
 | _,_,_,.cons r t,.cons r' t'=>by rw [r.inj r',Vals.inj t t']
section
variable {X:Cx}{pins:List (Addr×Obj)}{GK : St}{H:Hp}{s:Shared}{a:Addr}{xs ys:List V}
theorem aU.of {K:GP}(h:H a=some (.lst xs)):aU K H a xs:=.inl (.inl h)
theorem av.of {K:GP}(h:H a=some (.tup xs)):av K H a xs:=.inl (.inl h)
theorem Inv.list (I:Inv X pins GK H s)(h:aU X.K H a xs):∃its:List Value,Vals xs its/\PlainL s.heap a its.toArray/\xs.length<=sizeLine:=by
 rcases h with h | ⟨o,its,n,hk,hc,hd,hs,hz,r⟩
 ·obtain⟨z,its,n,r,e⟩:=h.ok I.aW
  exact⟨its,r,⟨_,n,e,rfl,rfl,rfl⟩,z⟩
 ·refine⟨its.toList,r,⟨o,n,I.iK a o hk,hc,hd,by simpa using hs⟩,?_⟩
  have e:=r.length
  simp only [Hw] at e
  omega
theorem Inv.tuple (I:Inv X pins GK H s)(h:av X.K H a xs):∃its:List Value,Vals xs its/\IsTup s.heap a its.toArray/\xs.length<=sizeLine:=by
 rcases h with h | ⟨o,its,n,hk,hc,hs,hz,r⟩
 ·obtain⟨z,its,r,o,e,c,n,d,_⟩:=h.ok I.aW
  exact⟨its,r,⟨o,e,c,n,d⟩,z⟩
 ·refine⟨its.toList,r,⟨o,I.iK a o hk,hc,n,by simpa using hs⟩,?_⟩
  have e:=r.length
  simp only [Hw] at e
  omega
theorem Inv.Ae (I:Inv X pins GK H s)(h:aU X.K H a xs)(h':aU X.K H a ys):xs=ys:=by
 obtain⟨its,r,⟨o,n,e,_,_,d⟩,_⟩:=I.list h
 obtain⟨its',r',⟨o',n',e',_,_,d'⟩,_⟩:=I.list h'
 rw [e] at e';cases e'
 rw [d] at d'
 injection d' with d1 _
 have:its=its':=by simpa using congrArg Array.toList d1
 subst this
 exact r.inj r'
theorem Inv.gx (I:Inv X pins GK H s)(h:av X.K H a xs)(h':av X.K H a ys):xs=ys:=by
 obtain⟨its,r,⟨o,e,_,n,d⟩,_⟩:=I.tuple h
 obtain⟨its',r',⟨o',e',_,n',d'⟩,_⟩:=I.tuple h'
 rw [e] at e';cases e'
 rw [d] at d'
 injection d' with d1 _
 have:its=its':=by simpa using congrArg Array.toList d1
 subst this
 exact r.inj r'
end
abbrev Cx.jG (X:Cx)(E:Value->Shared->Prop):Cx:={ X with xe:=E }
abbrev Cx.we (X:Cx):Cx:=X.jG fun _ _=>False
theorem Cx.Ok.jG {X:Cx}(ok:X.Ok)(E:Value->Shared->Prop):(X.jG E).Ok :=
 ⟨ok.mod,ok.kind,ok.glob,ok.blt,ok.above,ok.inj,ok.has,ok.yC,ok.hd,ok.frames,ok.BW,ok.Fn,ok.bs,ok.o6,ok.tY,ok.xo,ok.iF,ok.tZ⟩
theorem Cx.Ok.iw {X:Cx}{E:Value->Shared->Prop}(ok:(X.jG E).Ok):X.Ok :=
 ⟨ok.mod,ok.kind,ok.glob,ok.blt,ok.above,ok.inj,ok.has,ok.yC,ok.hd,ok.frames,ok.BW,ok.Fn,ok.bs,ok.o6,ok.tY,ok.xo,ok.iF,ok.tZ⟩
section
variable {X:Cx}{pins:List (Addr×Obj)}{GK : St}{H:Hp}{s:Shared}{E:Value->Shared->Prop}
theorem Inv.jG (I:Inv X pins GK H s)(E:Value->Shared->Prop):Inv (X.jG E) pins GK H s:=⟨I.ok.jG E,I.os,I.bare,I.base,I.loc,I.cell,I.free,I.fj,I.pin,I.aW,I.len⟩
theorem Inv.iw (I:Inv (X.jG E) pins GK H s):Inv X pins GK H s:=⟨I.ok.iw,I.os,I.bare,I.base,I.loc,I.cell,I.free,I.fj,I.pin,I.aW,I.len⟩
theorem SP.iw {D:Ends}{f:Flow}{s':Shared}(h:SP (X.jG E) pins D f s'):SP X pins D f s':=by
 cases f with
 | next=>obtain⟨σ',H',I,q⟩:=h;exact⟨σ',H',I.iw,q⟩
 | brk=>obtain⟨σ',H',I,q⟩:=h;exact⟨σ',H',I.iw,q⟩
 | cont=>obtain⟨σ',H',I,q⟩:=h;exact⟨σ',H',I.iw,q⟩
 | ret u=>obtain⟨v,σ',H',I,r,q⟩:=h;exact⟨v,σ',H',I.iw,r,q⟩
theorem iY.we {st:List Stmt}{t:TS}(h:iY X.we st t):iY X st t:=fun pins s GK H D I hw =>
 Jz (h pins s GK H D (I.jG _) hw) (fun _ _ q=>q.iw) fun _ _ z=>False.elim z
end
section
variable {X:Cx}{st:Stmt}{rest:List Stmt}{t u:TS}{e:Expr}{te:TE}{pos:Pos}
def EW:TS:=fun D GK H=>D.nx GK H
def FG (t u:TS):TS:=fun D GK H=>t { D with nx:=u D } GK H
theorem aP:iY X [] EW:=fun _ _ GK H _ I h=>JX ⟨GK,H,I,h⟩
theorem ai (h1:PS X st t)(h2:iY X rest u):iY X (st::rest) (FG t u):=by
 intro pins s GK H D I h
 refine wpAny_execs_cons (bg (h1 pins s GK H { D with nx:=u D } I h) fun f s1 q=>?_)
 cases f with
 | next =>
  obtain⟨σ',H',I',q⟩:=q
  exact h2 pins s1 σ' H' D I' q
 | ret v=>exact q
 | brk=>exact q
 | cont=>exact q
theorem ar (h1:PS X st t):iY X [st] t:=by
 intro pins s GK H D I h
 refine wpAny_execs_cons (bg (h1 pins s GK H D I h) fun f s1 q=>?_)
 cases f with
 | next=>exact JX q
 | ret v=>exact q
 | brk=>exact q
 | cont=>exact q
theorem Inv.quiet {pins:List (Addr×Obj)}{GK : St}{H:Hp}{s:Shared}(I:Inv X pins GK H s):interactive X.env=false:=by simp [interactive,I.ok.kind]
def EX (te:TE):TS:=fun D GK H=>te GK H fun _ H1=>D.nx GK H1
theorem dH (he:PE X e te)(hs:swapsWith e none pos.line X.env=pure false:=by rfl):PS X (.Expr e pos) (EX te):=by
 intro pins s GK H D I h
 exact wpAny_Expr_any (bg (he pins s GK H _ I h) fun v s1 ⟨x,H1,I1,r1,q1⟩=>⟨GK,H1,I1,q1⟩) I.quiet hs
def DC (te:TE):TS:=fun D GK H=>te GK H D.rt
theorem aH (he:PE X e te):PS X (.Return (some e) pos) (DC te):=by
 intro pins s GK H D I h
 exact wpAny_Return_some (bg (he pins s GK H _ I h) fun v s1 ⟨x,H1,I1,r1,q1⟩=>⟨x,GK,H1,I1,r1,q1⟩)
def FH (c:TT)(t u:TS):TS:=fun D GK H=>c GK H fun b H1=>if b=true then t D GK H1 else u D GK H1
theorem aZ {c:Expr}{a b:List Stmt}{tc:TT}(hc:PT X c tc)(ha:iY X a t)(hb:iY X b u):PS X (.If c a b pos) (FH tc t u):=by
 intro pins s GK H D I h
 refine wpAny_If (bg (hc pins s GK H _ I h) fun d s1 ⟨H1,I1,q1⟩=>?_)
 cases d with
 | true=>exact ha pins s1 GK H1 D I1 q1
 | false=>exact hb pins s1 GK H1 D I1 q1
def DD:TS:=fun _ _ _=>False
theorem Af:PS X st DD:=fun _ _ _ _ _ _ h=>h.elim
end
abbrev TG:=V->St->Hp->(St->Hp->Prop)->Prop
abbrev rV:=List V->St->Hp->(St->Hp->Prop)->Prop
def PG (X:Cx)(target:Expr)(t:TG):Prop :=
 ∀(pins:List (Addr×Obj)) (s:Shared) (GK : St) (H:Hp) (v:V) (u:Value) (Q:St->Hp->Prop),Inv X pins GK H s->RelV v u->t v GK H Q ->
  wpAny (model X.prog X.w) X.A (assign target X.env u) (fun _ s'=>∃σ' H',Inv X pins σ' H' s'/\Q σ' H') X.xe s
def BX (X:Cx)(ts:List Expr)(t:rV):Prop :=
 ∀(pins:List (Addr×Obj)) (s:Shared) (GK : St) (H:Hp) (vs:List V) (us:List Value) (Q:St->Hp->Prop),Inv X pins GK H s->Vals vs us->t vs GK H Q ->
  wpAny (model X.prog X.w) X.A (assignInOrder ((assignEach ts X.env).map (·.2)) us) (fun _ s'=>∃σ' H',Inv X pins σ' H' s'/\Q σ' H') X.xe s
abbrev Ag:=V->V->V->Hp->(Hp->Prop)->Prop
def Ah (X:Cx)(t:Ag):Prop :=
 ∀(pins:List (Addr×Obj)) (s:Shared) (GK : St) (H:Hp) (o i v:V) (ov iv u:Value) (Q:Hp->Prop),Inv X pins GK H s->RelV o ov->RelV i iv->RelV v u->t o i v H Q ->
  wpAny (model X.prog X.w) X.A (setItem ov iv u) (fun _ s'=>∃H',Inv X pins GK H' s'/\Q H') X.xe s
section
variable {X:Cx}{pos:Pos}
def tR (i:Nat):TG:=fun v GK H Q=>Q (GK.set i (some v)) H
theorem aB {i:Nat}{x:Str}(hN:X.N.Nodup)(hi:X.N[i]?=some x)(hx:Loc X.env.scope x)(hf:X.fn x=true\/X.env.scope.names.lookup x=some .local:=by first | exact .inl rfl | exact .inr rfl | assumption):PG X (.Name x pos) (tR i):=by
 intro pins s GK H v u Q I r h
 exact wpAny_assign_Name (kn I hN hi hx r (fun s' I'=>⟨_,H,I',h⟩) hf)
def FI:rV:=fun vs GK H Q=>vs=[]/\Q GK H
def EY (t:TG)(u:rV):rV:=fun vs GK H Q=>∃v r,vs=v::r/\t v GK H fun σ' H'=>u r σ' H' Q
theorem cb:BX X [] FI:=by
 intro pins s GK H vs us Q I r h
 obtain⟨e,h⟩:=h
 subst e
 cases r
 exact assignInOrder_nil ⟨GK,H,I,h⟩
theorem aM {e:Expr}{es:List Expr}{t:TG}{u:rV}(h1:PG X e t)(h2:BX X es u)
  (hs:(assignEach (e::es) X.env).map (·.2)=assign e X.env::(assignEach es X.env).map (·.2):=by rfl):BX X (e::es) (EY t u):=by
 intro pins s GK H vs us Q I r h
 obtain⟨v,vr,e1,h⟩:=h
 subst e1
 cases r with
 | cons r rr =>
  rw [hs]
  refine assignInOrder_cons (bg (h1 pins s GK H _ _ _ I r h) fun _ s1 ⟨σ1,H1,I1,q1⟩=>?_)
  exact h2 pins s1 σ1 H1 _ _ Q I1 rr q1
def Ai (K:GP)(n:Nat)(t:rV):TG:=fun v GK H Q=>∃a xs,v=.ref a/\av K H a xs/\xs.length=n/\t xs GK H Q
theorem cG {es:List Expr}{k:Nat}{t:rV}{n:Nat}(hc:X.calm=true)(h:BX X es t)
  (hn:(assignEach es X.env).length=n:=by rfl) (hst:(assignEach es X.env).findIdx? (·.1)=none:=by rfl):PG X (.Tuple es k pos) (Ai X.K n t):=by
 intro pins s GK H v u Q I r hw
 obtain⟨a,xs,e1,hq,hl,hw⟩:=hw
 subst e1
 cases r
 obtain⟨its,rv,ht,hz⟩:=I.tuple hq
 refine assign_Tuple_tuple (I.ok.hd hc) ht (by simp [hn,<-hl,rv.length]) hst fun h' hx=>?_
 have I1:Inv X pins GK H { s with heap:=h' }:=I.kept (t':=s.toks) fun b o e=>hx b o (G0 (GU e)) e
 exact h pins _ GK H xs _ Q I1 (by simpa using rv) hw
def FJ (to ti:TE)(t:Ag):TG:=fun v GK H Q=>to GK H fun o H1=>ti GK H1 fun i H2=>t o i v H2 fun H3=>Q GK H3
theorem gG {o i:Expr}{to ti:TE}{t:Ag}(ho:PE X o to)(hi:PE X i ti)(hs:Ah X t)
  (ha:∀v,assign (.Subscript o i pos) X.env v=(do
   let ov <-holding [v] (eval o X.env)
   let iv <-holding [v,ov] (eval i X.env)
   standAt pos
   holding [v,ov,iv] (setItem ov iv v)
   release [v,ov,iv] []):=by intro _;rfl):PG X (.Subscript o i pos) (FJ to ti t):=by
 intro pins s GK H v u Q I r h
 rw [ha]
 refine Jx (JB (bg (ho pins s GK H _ I h) fun ov s1 ⟨x,H1,I1,r1,q1⟩=>?_))
 refine Jx (JB (bg (hi pins s1 GK H1 _ I1 q1) fun iv s2 ⟨y,H2,I2,r2,q2⟩=>?_))
 refine Jx (JR (Jx (JB (bg (hs pins s2 GK H2 x y v ov iv u _ I2 r1 r2 r q2) fun _ s3 ⟨H3,I3,q3⟩=>?_))))
 exact wpAny_release ⟨GK,H3,I3,q3⟩
def xp (te:TE)(g:TG):TS:=fun D GK H=>te GK H fun x H1=>g x GK H1 D.nx
theorem cN {tg e:Expr}{te:TE}{g:TG}(he:PE X e te)(hg:PG X tg g)(hs:swapsWithSole [tg] e pos.line X.env=pure false:=by rfl)(hw:swappedStores [tg] e X.env=pure none:=by rfl)
  (h1:(assignEach [tg] X.env).map (·.2)=[assign tg X.env]:=by rfl):PS X (.Assign [tg] e pos) (xp te g):=by
 intro pins s GK H D I h
 refine wpAny_Assign_stores (bg (he pins s GK H _ I h) fun v s1 ⟨x,H1,I1,r1,q1⟩=>?_) hs hw
 rw [h1]
 exact bg (hg pins s1 GK H1 x v _ I1 r1 q1) fun _ s2 q=>q
theorem aL {i:Nat}{x:Str}{e:Expr}{te:TE}{pos':Pos}(hN:X.N.Nodup)(hi:X.N[i]?=some x)(hx:Loc X.env.scope x)(he:PE X e te)(hs:swapsWith e (some (.Name x pos')) pos.line X.env=pure false:=by rfl)(hf:X.fn x=true\/X.env.scope.names.lookup x=some .local:=by first | exact .inl rfl | exact .inr rfl | assumption) :
  PS X (.Assign [.Name x pos'] e pos) (xp te (tR i)):=by
 intro pins s GK H D I h
 refine wpAny_Assign_Name (bg (he pins s GK H _ I h) fun v s1 ⟨y,H1,I1,r1,q1⟩=>?_) hs
 exact kn I1 hN hi hx r1 (fun s2 I2=>⟨_,H1,I2,q1⟩) hf
def FK (i j:Nat)(ta:TA):TS:=fun D GK H=>ta GK H fun vs H1=>∃v w,vs=[v,w]/\D.nx ((GK.set i (some v)).set j (some w)) H1
theorem lS {i j:Nat}{x y:Str}{a b:Expr}{ta:TA}{px py pt:Pos}{kt k2 pt2}(hc:X.calm=true)(hN:X.N.Nodup)(hi:X.N[i]?=some x)(hj:X.N[j]?=some y)(hij:i≠j)
  (hx:X.env.scope.names.lookup x=some .local) (hy:X.env.scope.names.lookup y=some .local) (ha:PA X [a,b] ta)
  (hw:swappedStores [.Tuple [.Name x px,.Name y py] kt pt] (.Tuple [a,b] k2 pt2) X.env=pure (some [x,y]))
  (hs:swapsWithSole [.Tuple [.Name x px,.Name y py] kt pt] (.Tuple [a,b] k2 pt2) pos.line X.env=pure false:=by rfl) :
  PS X (.Assign [.Tuple [.Name x px,.Name y py] kt pt] (.Tuple [a,b] k2 pt2) pos) (FK i j ta):=by
 intro pins s GK H D I h
 rw [exec_Assign_arm]
 refine Jx (JR ?_)
 rw [hs]
 refine Jx (Jy ?_)
 rw [if_neg (by decide)]
 refine Jx (Tuple_ (bg (ha _ pins s GK H _ I h) fun us s1 ⟨vs,H1,I1,r1,q1⟩=>?_))
 obtain⟨v,w,e1,q1⟩:=q1
 subst e1
 obtain⟨u1,u2,rfl,rv,rw'⟩:∃u1 u2,us=[u1,u2]/\RelV v u1/\RelV w u2:=by
  cases r1 with
  | cons p q =>
   cases q with
   | cons p' q' =>
    cases q'
    exact⟨_,_,rfl,p,p'⟩
 refine JE ?_ (by show 2<=sizeLine;decide)
 have I2:Inv X pins GK H1 { s1 with heap:=s1.heap.push { cls:=.type "tuple",data:=.seq [u1,u2].toArray } }:=I1.kept (t':=s1.toks) fun b o e=>GV _ e
 rw [hw]
 refine Jx (Jy ?_)
 show wpAny (model X.prog X.w) X.A (do rule "assign.swapped-stores";let items <-unpackItems (.ref s1.heap.objs.size) 2 none;assignInOrder [fun v=>bindName X.env y v,fun v=>bindName X.env x v] items.reverse;pure Flow.next) _ _ _
 refine Jx (JF (Jx (unpackItems_tuple (items:=#[u1,u2]) (I.ok.hd hc) (IsTup.new s1.heap _) fun h' hx'=>?_)))
 have I3:=I2.kept (h':=h') (t':=s1.toks) fun b o e=>hx' b o (G0 (GU e)) e
 show wpAny _ _ (assignInOrder [fun v=>bindName X.env y v,fun v=>bindName X.env x v] [u2,u1] >>= fun _=>pure Flow.next) _ _ _
 refine Jx (assignInOrder_cons (wpAny_bindName (kn I3 hN hj (.inl hy) rw' (fun s2 I4=>?_) (.inr hy))))
 refine assignInOrder_cons (wpAny_bindName (kn I4 hN hi (.inl hx) rv (fun s3 I5=>assignInOrder_nil (Jy ?_)) (.inr hx)))
 rw [List.set_comm _ _ (Ne.symm hij)] at I5
 exact⟨_,H1,I5,q1⟩
end
section
variable {X:Cx}{pos:Pos}
def DE (c:TT)(tb:TS):TS:=fun D GK H=>∃W:Nat->St->Hp->Prop,(∃m,W m GK H)/\∀m GK H,W m GK H ->
 c GK H fun b H1=>if b=true then ∃N:St->Hp->Prop,(∀σ' H',N σ' H'->∃m',m' < m/\W m' σ' H')/\tb { D with nx:=N,ct:=N,bk:=D.nx } GK H1 else D.nx GK H1
theorem uf {c:Expr}{body:List Stmt}{tc:TT}{tb:TS}(hp:PassesOwn (model X.prog X.w) X.A X.env X.xe)(hc:PT X c tc)(hb:iY X body tb):PS X (.While c body [] pos) (DE tc tb):=by
 intro pins s GK H D I h
 obtain⟨W,⟨m0,w0⟩,turn⟩:=h
 refine wpAny_While (codeAny_whileLoop (fun n s'=>∃σ' H',Inv X pins σ' H' s'/\W n σ' H') ?_ m0 ⟨GK,H,I,w0⟩)
 rintro n s1 ⟨σ1,H1,I1,w1⟩
 refine JN hp (bg (hc pins s1 σ1 H1 _ I1 (turn n σ1 H1 w1)) fun b s2 ⟨H2,I2,q2⟩=>?_)
 cases b with
 | true =>
  obtain⟨N,hN,q2⟩:=q2
  rw [if_pos rfl]
  refine JN hp (bg (hb pins s2 σ1 H2 _ I2 q2) fun f s3 q3=>?_)
  cases f with
  | next =>
   obtain⟨σ3,H3,I3,n3⟩:=q3
   obtain⟨m',hm,w3⟩:=hN σ3 H3 n3
   exact⟨m',hm,σ3,H3,I3,w3⟩
  | cont =>
   obtain⟨σ3,H3,I3,n3⟩:=q3
   obtain⟨m',hm,w3⟩:=hN σ3 H3 n3
   exact⟨m',hm,σ3,H3,I3,w3⟩
  | brk=>exact q3
  | ret v=>exact q3
 | false =>
  rw [if_neg He]
  exact JX ⟨σ1,H2,I2,q2⟩
end
structure It where
 go:Nat->Hp->Prop
 wg:Nat->Hp->V->Hp->Prop
 stop:Nat->Hp->Prop
def iG (X:Cx)(pins:List (Addr×Obj))(H:Hp)(b:Addr):Prop :=
 H b=none/\b≠X.env.locals/\b∉X.fs/\(b∈X.ex\/X.d5.heap.objs.size<=b)/\(∀x c,X.env.cells.lookup x=some c->c≠b)/\∀p∈X.pn++pins,p.1≠b
theorem Inv.lT {X:Cx}{pins:List (Addr×Obj)}{GK : St}{H H':Hp}{s:Shared}{b:Addr}(I:Inv X pins GK H s)(hb:s.heap.objs.size<=b)(hn:H' b=none):iG X pins H' b:=by
 refine⟨hn,HE (Hj I.lt hb),I.Fy hb,.inr (GY I.sz hb),fun x c e z=>?_,fun p hp z=>?_⟩
 ·obtain⟨v,q⟩:=I.cell x c e
  exact absurd (Hj q.lt (by rw [z];exact hb)) (Hf _)
 ·exact absurd (Hj (GU (I.pin p hp).1) (by rw [z];exact hb)) (Hf _)
structure Turn (P:Program) (w:World) (K:GP) (tg:Expr) (J:It) (fp:List Addr) (it:Addr) (tn:Nat->Heap->Prop):Prop where
 mem:it∈fp
 obj:∀i h,tn i h->∀b∈fp,∃o,h.get? b=some o/\∀v,o.data≠.cell v
 keep:∀i h h',tn i h->(∀b∈fp,∀o,h.get? b=some o->h'.get? b=some o)->tn i h'
 item:∀(X:Cx),X.prog=P->X.w=w->X.K=K->X.calm=true->∀(i:Nat) (pins:List (Addr×Obj)) (s:Shared) (GK : St) (H:Hp) (E:Value->Shared->Prop),Inv X pins GK H s->(∀b∈fp,iG X pins H b)->tn i s.heap->J.go i H ->
  wpAny (model P w) X.A (pyNext (.ref it)) (fun r s1=>∃u,r=some u /\
   wpAny (model P w) X.A (letOwnedTupleGo tg (.ref it) u) (fun _ s2=>∃x H',Inv X pins GK H' s2/\RelV x u/\J.wg i H x H'/\tn (i+1) s2.heap/\∀b∈fp,H' b=none) E s1) E s
 done:∀(X:Cx),X.prog=P->X.w=w->X.K=K->X.calm=true->∀(i:Nat) (pins:List (Addr×Obj)) (s:Shared) (GK : St) (H:Hp) (E:Value->Shared->Prop),Inv X pins GK H s->(∀b∈fp,iG X pins H b)->tn i s.heap->J.stop i H ->
  wpAny (model P w) X.A (pyNext (.ref it)) (fun r s1=>r=none/\Inv X pins GK H s1) E s
 self:∀(A:Around) (i:Nat) (s:Shared) (Q:Value->Shared->Prop) (E:Value->Shared->Prop),tn i s.heap->Q (.ref it) s->wpAny (model P w) A (pyIter (.ref it)) Q E s
abbrev TI:=St->Hp->(It->Hp->Prop)->Prop
def Fo (X:Cx)(pins:List (Addr×Obj))(GK : St)(tg:Expr)(R:It->Hp->Prop)(itv:Value)(s2:Shared):Prop :=
 ∃(it:Addr) (fp:List Addr) (tn:Nat->Heap->Prop) (J:It) (H':Hp),itv=.ref it/\Inv X pins GK H' s2/\Turn X.prog X.w X.K tg J fp it tn/\tn 0 s2.heap/\(∀b∈fp,iG X pins H' b)/\R J H'
def PI (X:Cx)(tg iter:Expr)(wi:TI):Prop :=
 ∀(pins:List (Addr×Obj)) (s:Shared) (GK : St) (H:Hp) (R:It->Hp->Prop),Inv X pins GK H s->wi GK H R ->
  wpAny (model X.prog X.w) X.A (eval iter X.env) (fun v s1=>wpAny (model X.prog X.w) X.A (pyIter v) (Fo X pins GK tg R) X.xe s1) X.xe s
theorem tS {M:Model}{A:Around}{E:Value->Shared->Prop}{s:Shared}{tg:Expr}{it:Addr}{u:Value}{o:Obj}{n:String}{vs:Array Value}{Q:Unit->Shared->Prop}(ho:s.heap.get? it=some o)(hc:o.cls=.type n)(hd:o.data=.fields vs)
    (hn:["enumerate", "zip", "dict_itemiterator", "dict_reverseitemiterator", "odict_iterator", "itertools.zip_longest", "itertools.pairwise"].contains n=false) (hQ:Q () s):wpAny M A (letOwnedTupleGo tg (.ref it) u) Q E s:=by
  unfold letOwnedTupleGo
  cases tg <;> first
    | exact Jy hQ
    | (cases u <;> first
        | exact Jy hQ
        | (refine Jx (wpAny_load ho ?_)
           rw [hc,hd]
           show wpAny M A (if (["enumerate", "zip", "dict_itemiterator", "dict_reverseitemiterator", "odict_iterator", "itertools.zip_longest", "itertools.pairwise"].contains n&&vs[0]? == some (rawInt _))=true then _ else _) Q E s
           rw [if_neg (by intro h;rw [hn,IS] at h;cases h)]
           exact Jy hQ))
def DF (K:GP)(a:Addr):It :=
 ⟨fun i H=>∃xs x,aU K H a xs/\xs[i]?=some x,fun i H x H'=>H' = H/\∀xs,aU K H a xs->xs[i]?=some x,fun i H=>∃xs,aU K H a xs/\xs.length<=i⟩
def wj (K:GP)(a:Addr):It :=
 ⟨fun i H=>∃xs x,av K H a xs/\xs[i]?=some x,fun i H x H'=>H' = H/\∀xs,av K H a xs->xs[i]?=some x,fun i H=>∃xs,av K H a xs/\xs.length<=i⟩
def ug (lo:Int)(n:Nat):It:=⟨fun i _=>i<n,fun i H x H'=>H' = H/\x=.int (lo+i),fun i _=>n<=i⟩
theorem yD {P:Program}{w:World}{K:GP}{tg:Expr}(a it:Addr):Turn P w K tg (DF K a) [it] it (fun i h=>h.IsListIter it a i) where
 mem:=by simp
 obj:=fun i h st b hb=>by
  have e:b=it:=by simpa using hb
  subst e
  obtain⟨o,e,c,d⟩:=st
  exact⟨o,e,fun v z=>by rw [d] at z;cases z⟩
 keep:=fun i h h' st k=>st.at fun o e=>k it (by simp) o e
 item:=by
  intro X hP hw hK hc i pins s GK H E I hf st hg
  subst hP hw hK
  obtain⟨xs,x,hq,hx⟩:=hg
  obtain⟨its,rv,p,hz⟩:=I.list hq
  obtain⟨u,hu,ru⟩:=rv.get hx
  obtain⟨f0,f1,f2,f3,f4,f5⟩:=hf it (by simp)
  refine wpAny_pyNext_list_item st p.isList (x:=u) (by simpa using hu) fun h' st' sb=>?_
  have I1:Inv X pins GK H { s with heap:=h' }:=I.turned (t':=s.toks) (fun b o hb e=>(sb.2 b hb).trans e) f0 f1 f3 f4 f5
  obtain⟨o,e,c,d⟩:=id st'
  exact⟨u,rfl,tS (s:={ s with heap:=h' }) e c d (by decide) ⟨x,H,I1,ru,⟨rfl,fun ys hy=>by rw [I.Ae hy hq];exact hx⟩,st',fun b hb=>(hf b hb).1⟩⟩
 done:=by
  intro X hP hw hK hc i pins s GK H E I hf st hg
  subst hP hw hK
  obtain⟨xs,hq,hx⟩:=hg
  obtain⟨its,rv,p,hz⟩:=I.list hq
  obtain⟨f0,f1,f2,f3,f4,f5⟩:=hf it (by simp)
  have hl:=rv.length
  exact wpAny_pyNext_list_end (I.ok.hd hc) st p.isList (by simp;omega) fun h' eb=>⟨rfl,I.turned (t':=s.toks) (fun b o hb e=>eb b o hb e) f0 f1 f3 f4 f5⟩
 self:=fun _ _ _ _ _ st h=>wpAny_pyIter_listiter st h
theorem xq {P:Program}{w:World}{K:GP}{tg:Expr}(a it:Addr):Turn P w K tg (wj K a) [it] it (fun i h=>h.IsTupleIter it a i) where
 mem:=by simp
 obj:=fun i h st b hb=>by
  have e:b=it:=by simpa using hb
  subst e
  obtain⟨o,e,c,d⟩:=st
  exact⟨o,e,fun v z=>by rw [d] at z;cases z⟩
 keep:=fun i h h' st k=>st.at fun o e=>k it (by simp) o e
 item:=by
  intro X hP hw hK hc i pins s GK H E I hf st hg
  subst hP hw hK
  obtain⟨xs,x,hq,hx⟩:=hg
  obtain⟨its,rv,p,hz⟩:=I.tuple hq
  obtain⟨u,hu,ru⟩:=rv.get hx
  obtain⟨f0,f1,f2,f3,f4,f5⟩:=hf it (by simp)
  refine wpAny_pyNext_tuple_item st (show s.heap.IsTuple a its.toArray from p) (x:=u) (by simpa using hu) fun h' st' sb=>?_
  have I1:Inv X pins GK H { s with heap:=h' }:=I.turned (t':=s.toks) (fun b o hb e=>(sb.2 b hb).trans e) f0 f1 f3 f4 f5
  obtain⟨o,e,c,d⟩:=id st'
  exact⟨u,rfl,tS (s:={ s with heap:=h' }) e c d (by decide) ⟨x,H,I1,ru,⟨rfl,fun ys hy=>by rw [I.gx hy hq];exact hx⟩,st',fun b hb=>(hf b hb).1⟩⟩
 done:=by
  intro X hP hw hK hc i pins s GK H E I hf st hg
  subst hP hw hK
  obtain⟨xs,hq,hx⟩:=hg
  obtain⟨its,rv,p,hz⟩:=I.tuple hq
  obtain⟨f0,f1,f2,f3,f4,f5⟩:=hf it (by simp)
  have hl:=rv.length
  exact wpAny_pyNext_tuple_end (I.ok.hd hc) st (show s.heap.IsTuple a its.toArray from p) (by simp;omega) fun h' eb=>⟨rfl,I.turned (t':=s.toks) (fun b o hb e=>eb b o hb e) f0 f1 f3 f4 f5⟩
 self:=fun _ _ _ _ _ st h=>wpAny_pyIter_tupleiter st h
theorem xr {P:Program}{w:World}{K:GP}{tg:Expr}(it:Addr)(lo:Int)(n:Nat):Turn P w K tg (ug lo n) [it] it (fun i h=>IsRangeIter h it (lo+(i:Nat)*1) ((n:Int)-(i:Nat)) 1) where
 mem:=by simp
 obj:=fun i h st b hb=>by
  have e:b=it:=by simpa using hb
  subst e
  exact⟨_,st,fun v z=>by
   have z':Data.fields _=Data.cell v:=z
   cases z'⟩
 keep:=fun i h h' st k=>k it (by simp) _ st
 item:=by
  intro X hP hw hK hc i pins s GK H E I hf st hg
  subst hP hw hK
  obtain⟨f0,f1,f2,f3,f4,f5⟩:=hf it (by simp)
  have W:=Walks.range (prog:=X.prog) (w:=X.w) (I.ok.hd hc) it lo 1 n
  refine W.item i s _ _ hg st fun v h' tk hv st' kk=>?_
  obtain⟨t,rfl⟩:=hv
  have I1:Inv X pins GK H { s with heap:=h',toks:=tk }:=I.turned (fun b o hb e=>kk b o (by simpa using hb) e) f0 f1 f3 f4 f5
  refine⟨_,rfl,tS (s:={ s with heap:=h',toks:=tk }) (n := "range_iterator") st' rfl rfl (by decide) ⟨.int (lo+i),H,I1,⟨t,?_⟩,⟨rfl,rfl⟩,st',fun b hb=>(hf b hb).1⟩⟩
  rw [Int.mul_one]
 done:=by
  intro X hP hw hK hc i pins s GK H E I hf st hg
  subst hP hw hK
  obtain⟨f0,f1,f2,f3,f4,f5⟩:=hf it (by simp)
  exact wpAny_pyNext_range_end (I.ok.hd hc) st (by have:n<=i:=hg;omega) fun h' eb=>⟨rfl,I.turned (t':=s.toks) (fun b o hb e=>eb b o hb e) f0 f1 f3 f4 f5⟩
 self:=fun _ _ _ _ _ st h=>wpAny_pyIter_rangeiter st h
section
variable {X:Cx}{tg:Expr}
def EZ (K:GP)(tl:TE):TI:=fun GK H R=>tl GK H fun x H1=>∃a,x=.ref a/\(∃xs,aU K H1 a xs)/\R (DF K a) H1
def FL (K:GP)(tl:TE):TI:=fun GK H R=>tl GK H fun x H1=>∃a,x=.ref a/\(∃xs,av K H1 a xs)/\R (wj K a) H1
theorem m8 {l:Expr}{tl:TE}(hl:PE X l tl):PI X tg l (EZ X.K tl):=by
 intro pins s GK H R I h
 refine bg (hl pins s GK H _ I h) fun v s1 ⟨x,H1,I1,r1,q1⟩=>?_
 obtain⟨a,e,⟨xs,hq⟩,q⟩:=q1
 subst e
 cases r1
 obtain⟨its,rv,p,hz⟩:=I1.list hq
 refine J3 p.isList ?_
 refine⟨s1.heap.objs.size,[s1.heap.objs.size],_,_,H1,rfl,I1.kept (t':=s1.toks) fun b o e=>GV _ e,yD a _,⟨_,GX _ rfl,rfl,rfl⟩,fun b hb=>?_,q⟩
 have e:b=s1.heap.objs.size:=by simpa using hb
 subst e
 exact I1.lT (GQ _) (I1.aW.fresh (GQ _))
theorem eI {l:Expr}{tl:TE}(hl:PE X l tl):PI X tg l (FL X.K tl):=by
 intro pins s GK H R I h
 refine bg (hl pins s GK H _ I h) fun v s1 ⟨x,H1,I1,r1,q1⟩=>?_
 obtain⟨a,e,⟨xs,hq⟩,q⟩:=q1
 subst e
 cases r1
 obtain⟨its,rv,p,hz⟩:=I1.tuple hq
 refine JO (show s1.heap.IsTuple a its.toArray from p) ?_
 refine⟨s1.heap.objs.size,[s1.heap.objs.size],_,_,H1,rfl,I1.kept (t':=s1.toks) fun b o e=>GV _ e,xq a _,⟨_,GX _ rfl,rfl,rfl⟩,fun b hb=>?_,q⟩
 have e:b=s1.heap.objs.size:=by simpa using hb
 subst e
 exact I1.lT (GQ _) (I1.aW.fresh (GQ _))
theorem Aj {pins:List (Addr×Obj)}{GK : St}{H:Hp}{s:Shared}{R:It->Hp->Prop}{E:Value->Shared->Prop}{lo hi:Int}{t u v:Tok}{tk:Nat}(I:Inv X pins GK H s)(h1:-(2 ^ 62)<=lo)(h2:lo<2 ^ 62)(h3:-(2 ^ 62)<=hi)(h4:hi<2 ^ 62)
  (q:R (ug lo (hi-lo).toNat) H):wpAny (model X.prog X.w) X.A (pyIter (.ref s.heap.objs.size)) (Fo X pins GK tg R) E { s with heap:=s.heap.push { cls:=.type "range",data:=.fields #[.int lo t,.int hi u,.int 1 v] },toks:=tk }:=by
 refine wpAny_pyIter_range (IsRange.new ..) (small_one h1 h2 h3 h4) ?_
 have I1:Inv X pins GK H { s with heap:=s.heap.push { cls:=.type "range",data:=.fields #[.int lo t,.int hi u,.int 1 v] },toks:=tk }:=I.kept fun b o e=>GV _ e
 refine⟨(s.heap.push { cls:=.type "range",data:=.fields #[.int lo t,.int hi u,.int 1 v] }).objs.size,[(s.heap.push { cls:=.type "range",data:=.fields #[.int lo t,.int hi u,.int 1 v] }).objs.size],_,_,H,rfl,
  I1.kept (t':=tk) fun b o e=>GV _ e,xr _ lo (hi-lo).toNat,?_,fun b hb=>?_,q⟩
 ·have e1:lo+((0:Nat):Int)*1=lo:=by simp
  have e2:(((hi-lo).toNat:Nat):Int)-((0:Nat):Int)=Builtin.Range.rangeSize lo hi 1:=by rw [rangeSize_one];split <;> omega
  show IsRangeIter _ _ (lo+((0:Nat):Int)*1) ((((hi-lo).toNat:Nat):Int)-((0:Nat):Int)) 1
  rw [e1,e2]
  exact GX _ rfl
 ·have e:b=(s.heap.push { cls:=.type "range",data:=.fields #[.int lo t,.int hi u,.int 1 v] }).objs.size:=by simpa using hb
  subst e
  exact I1.lT (GQ _) (I1.aW.fresh (GQ _))
def E1 (ta:TA):TI:=fun GK H R=>ta GK H fun vs H1=>∃j:Int,vs=[.int j]/\-(2 ^ 62)<=j/\j<2 ^ 62/\R (ug 0 j.toNat) H1
theorem eJ {a:Expr} {ta:TA} {p pos:Pos} (hg:Gl X "range") (hm:X.mg "range" = none) (ha:PA X [a] ta) (hs:starEach [a] X.env=[(false,eval a X.env)]:=by rfl):PI X tg (.Call (.Name "range" p) [a] [] pos) (E1 ta):=by
 intro pins s GK H R I h
 refine Call_ (jY I hg hm boot_range (PyProof.Rows.callWith_type1 (bg (ha pos pins s GK H _ I h) fun us s1 ⟨vs,H1,I1,r1,q1⟩=>?_) hs rfl))
 obtain⟨j,e,q1,q2,q⟩:=q1
 subst e
 cases r1 with
 | cons r rr =>
  cases rr
  obtain⟨t,rfl⟩:=r
  exact call_range_1 (Aj I1 (by omega) (by omega) q1 q2 (by simpa using q))
def FN (wi:TI)(g:TG)(tb:TS):TS:=fun D GK H=>wi GK H fun J H1=>∃W:Nat->Nat->St->Hp->Prop,(∃m,W 0 m GK H1)/\∀i m GK H,W i m GK H ->
 (J.stop i H/\D.nx GK H)\/(J.go i H/\∃N:St->Hp->Prop,(∀σ' H',N σ' H'->∃m',m' < m/\W (i+1) m' σ' H')/\∀x H',J.wg i H x H'->g x GK H' fun σ2 H2=>tb { D with nx:=N,ct:=N,bk:=D.nx } σ2 H2)
def lU (fp:List Addr)(h:Heap):List (Addr×Obj):=fp.filterMap fun b=>(h.get? b).map fun o=>(b,o)
theorem iM {fp:List Addr}{h:Heap}{b:Addr}{o:Obj}(hb:b∈fp)(e:h.get? b=some o):(b,o)∈lU fp h:=Jo.mpr ⟨b,hb,by rw [e];rfl⟩
theorem yE {fp:List Addr}{h:Heap}{p:Addr×Obj}(hp:p∈lU fp h):p.1∈fp/\h.get? p.1=some p.2:=by
 obtain⟨b,hb,e⟩:=Jo.mp hp
 cases q:h.get? b with
 | none=>rw [q] at e;cases e
 | some o =>
  rw [q] at e
  have e':(b,o)=p:=G5.inj e
  subst e'
  exact⟨hb,q⟩
theorem Inv.pinned {pins:List (Addr×Obj)}{GK : St}{H:Hp}{s:Shared}{fp:List Addr}(I:Inv X pins GK H s)(hf:∀b∈fp,iG X pins H b)(ho:∀b∈fp,∃o,s.heap.get? b=some o/\∀v,o.data≠.cell v):Inv X (pins++lU fp s.heap) GK H s :=
 I.wc fun p hp=>(Hd.mp hp).elim (fun z=>I.pin p (Hn _ z)) fun z=>by
  obtain⟨hb,e⟩:=yE z
  obtain⟨f0,f1,f2,_⟩:=hf p.1 hb
  obtain⟨o,e',d⟩:=ho p.1 hb
  rw [e] at e';cases e'
  exact⟨e,f0,f1,f2,d⟩
theorem Inv.i5 {pins pl:List (Addr×Obj)}{GK : St}{H:Hp}{s:Shared}(I:Inv X (pins++pl) GK H s):Inv X pins GK H s:=I.wc fun p hp=>I.pin p (Hn _ (Hv _ hp))
theorem eM {iter:Expr}{body:List Stmt}{wi:TI}{g:TG}{tb:TS}{pos:Pos}(hp:PassesOwn (model X.prog X.w) X.A X.env X.xe)(hc:X.calm=true)(hi:PI X tg iter wi)(hg:PG X tg g)(hb:iY X body tb)
  (hs:∀x,foldedSetIterable iter X.env x=pure x:=by intro _;rfl):PS X (.For tg iter body [] pos) (FN wi g tb):=by
 intro pins s GK H D I h
 refine wpAny_For (bg (hi pins s GK H _ I h) fun v s1 h1=>bg h1 fun itv s2 h2=>?_) hs
 obtain⟨it,fp,tn,J,H2,e,I2,T,st2,f2,W,⟨m0,w0⟩,turn⟩:=h2
 subst e
 have stat:∀{H':Hp},(∀b∈fp,H' b=none)->∀b∈fp,iG X pins H' b:=fun hn b hb=>⟨hn b hb,(f2 b hb).2⟩
 refine codeAny_forLoop_any (fun n s'=>∃i σ' H',Inv X pins σ' H' s'/\tn i s'.heap/\(∀b∈fp,H' b=none)/\W i n σ' H') ?_ m0 ⟨0,GK,H2,I2,st2,fun b hb=>(f2 b hb).1,w0⟩
 rintro n s3 ⟨i,σ3,H3,I3,st3,fr3,w3⟩
 rcases turn i n σ3 H3 w3 with ⟨stop,qn⟩ | ⟨go,N,hN,step⟩
 ·refine JN hp (bg (T.done X rfl rfl rfl hc i pins s3 σ3 H3 X.xe I3 (stat fr3) st3 stop) fun r s4 ⟨hr,I4⟩=>?_)
  subst hr
  exact JX ⟨σ3,H3,I4,qn⟩
 ·refine JN hp (bg (T.item X rfl rfl rfl hc i pins s3 σ3 H3 X.xe I3 (stat fr3) st3 go) fun r s4 ⟨u,hr,h4⟩=>?_)
  subst hr
  refine JN hp (bg h4 fun _ s5 ⟨x,H5,I5,r5,y5,st5,fr5⟩=>?_)
  have I5':=I5.pinned (stat fr5) (T.obj _ _ st5)
  refine JN hp (bg (hg _ s5 σ3 H5 x u _ I5' r5 (step x H5 y5)) fun _ s6 ⟨σ6,H6,I6,q6⟩=>?_)
  refine JN hp (bg (hb _ s6 σ6 H6 _ I6 q6) fun f s7 q7=>?_)
  have again:∀{σ7:St} {H7:Hp},Inv X (pins++lU fp s5.heap) σ7 H7 s7->N σ7 H7->∃m,m<n/\∃i σ' H',Inv X pins σ' H' s7/\tn i s7.heap/\(∀b∈fp,H' b=none)/\W i m σ' H':=fun {σ7 H7} I7 n7=>by
   obtain⟨m',hm,w7⟩:=hN σ7 H7 n7
   refine⟨m',hm,i+1,σ7,H7,I7.i5,T.keep _ _ _ st5 fun b hb o e=>(I7.pin (b,o) (Hn _ (Hn _ (iM hb e)))).1,fun b hb=>?_,w7⟩
   obtain⟨o,e,d⟩:=T.obj _ _ st5 b hb
   exact (I7.pin (b,o) (Hn _ (Hn _ (iM hb e)))).2.1
  cases f with
  | next=>obtain⟨σ7,H7,I7,n7⟩:=q7;exact again I7 n7
  | cont=>obtain⟨σ7,H7,I7,n7⟩:=q7;exact again I7 n7
  | brk=>obtain⟨σ7,H7,I7,q7⟩:=q7;exact⟨σ7,H7,I7.i5,q7⟩
  | ret v=>obtain⟨x7,σ7,H7,I7,r7,q7⟩:=q7;exact⟨x7,σ7,H7,I7.i5,r7,q7⟩
end
theorem gY {K:GP}{a:Addr}{xs:List V}{g:TG}{tb:TS}{D:Ends}{GK : St}{H:Hp}(Pv:Nat->St->Hp->Prop)(h0:Pv 0 GK H)(hl:∀i GK H,i<=xs.length->Pv i GK H->av K H a xs)
  (hs:∀i x GK H,xs[i]?=some x->Pv i GK H->g x GK H fun σ2 H2=>tb { D with nx:=Pv (i+1),ct:=Pv (i+1),bk:=D.nx } σ2 H2) (hd:∀GK H,Pv xs.length GK H->D.nx GK H) :
  ∃W:Nat->Nat->St->Hp->Prop,(∃m,W 0 m GK H)/\∀i m GK H,W i m GK H ->
   ((wj K a).stop i H/\D.nx GK H)\/((wj K a).go i H/\∃N:St->Hp->Prop,(∀σ' H',N σ' H'->∃m',m' < m/\W (i+1) m' σ' H')/\∀x H',(wj K a).wg i H x H'->g x GK H' fun σ2 H2=>tb { D with nx:=N,ct:=N,bk:=D.nx } σ2 H2):=by
 refine⟨fun i m GK H=>m=xs.length-i/\i<=xs.length/\Pv i GK H,⟨xs.length,by simp,Hg _,h0⟩,?_⟩
 rintro i m GK H ⟨rfl,hi,p⟩
 have q:=hl i GK H hi p
 by_cases hlt:i<xs.length
 ·refine .inr ⟨⟨xs,xs[i],q,by simp [hlt]⟩,Pv (i+1),fun σ' H' p'=>⟨xs.length-(i+1),by omega,rfl,hlt,p'⟩,fun x H' y=>?_⟩
  obtain⟨e,y⟩:=y
  subst e
  exact hs i x GK _ (y xs q) p
 ·have e:i=xs.length:=by omega
  subst e
  exact .inl ⟨⟨xs,q,GQ _⟩,hd GK H p⟩
theorem ix {lo:Int}{n:Nat}{g:TG}{tb:TS}{D:Ends}{GK : St}{H:Hp}(Pv:Nat->St->Hp->Prop)(h0:Pv 0 GK H)
  (hs:∀i GK H,i<n->Pv i GK H->g (.int (lo+i)) GK H fun σ2 H2=>tb { D with nx:=Pv (i+1),ct:=Pv (i+1),bk:=D.nx } σ2 H2) (hd:∀GK H,Pv n GK H->D.nx GK H) :
  ∃W:Nat->Nat->St->Hp->Prop,(∃m,W 0 m GK H)/\∀i m GK H,W i m GK H ->
   ((ug lo n).stop i H/\D.nx GK H)\/((ug lo n).go i H/\∃N:St->Hp->Prop,(∀σ' H',N σ' H'->∃m',m' < m/\W (i+1) m' σ' H')/\∀x H',(ug lo n).wg i H x H'->g x GK H' fun σ2 H2=>tb { D with nx:=N,ct:=N,bk:=D.nx } σ2 H2):=by
 refine⟨fun i m GK H=>m=n-i/\i<=n/\Pv i GK H,⟨n,by simp,Hg _,h0⟩,?_⟩
 rintro i m GK H ⟨rfl,hi,p⟩
 by_cases hlt:i<n
 ·refine .inr ⟨hlt,Pv (i+1),fun σ' H' p'=>⟨n-(i+1),by omega,rfl,hlt,p'⟩,fun x H' y=>?_⟩
  obtain⟨e,y⟩:=y
  subst e y
  exact hs i GK _ hlt p
 ·have e:i=n:=by omega
  subst e
  exact .inl ⟨GQ _,hd GK H p⟩
abbrev R2:=V->V->Hp->VK->Prop
def dX (X:Cx)(f:Value->Value->Sem Value)(r:R2):Prop :=
 ∀(pins:List (Addr×Obj)) (s:Shared) (GK : St) (H:Hp) (x y:V) (v u:Value) (Q:VK),Inv X pins GK H s->RelV x v->RelV y u->r x y H Q ->
  wpAny (model X.prog X.w) X.A (f v u) (EP X pins GK Q) X.xe s
def DG (X:Cx)(f:Value->Sem Value)(r:V->Hp->VK->Prop):Prop :=
 ∀(pins:List (Addr×Obj)) (s:Shared) (GK : St) (H:Hp) (x:V) (v:Value) (Q:VK),Inv X pins GK H s->RelV x v->r x H Q ->
  wpAny (model X.prog X.w) X.A (f v) (EP X pins GK Q) X.xe s
def er (X:Cx)(f:Value)(r:List V->Hp->VK->Prop):Prop :=
 ∀(pins:List (Addr×Obj)) (s:Shared) (GK : St) (H:Hp) (xs:List V) (us:List Value) (Q:VK),Inv X pins GK H s->Vals xs us->r xs H Q ->
  wpAny (model X.prog X.w) X.A (call f us) (EP X pins GK Q) X.xe s
def FO (X:Cx)(r:V->Hp->(Bool->Hp->Prop)->Prop):Prop :=
 ∀(pins:List (Addr×Obj)) (s:Shared) (GK : St) (H:Hp) (x:V) (v:Value) (Q:Bool->Hp->Prop),Inv X pins GK H s->RelV x v->r x H Q ->
  wpAny (model X.prog X.w) X.A (truthy v) (TP X pins GK Q) X.xe s
def BY (r:R2)(ta tb:TE):TE:=fun GK H Q=>ta GK H fun x H1=>tb GK H1 fun y H2=>r x y H2 Q
def Gn (r:V->Hp->VK->Prop)(ta:TE):TE:=fun GK H Q=>ta GK H fun x H1=>r x H1 Q
def rI (C:Int->Int->Prop)(g:Int->Int->V):R2:=fun x y H Q=>∃i j,x=.int i/\y=.int j/\C i j/\Q (g i j) H
def uh (g:Int->Int->V):R2:=fun x y H Q=>∃i j,x=.int i/\y=.int j/\Q (g i j) H
def rU (g:Int->V):V->Hp->VK->Prop:=fun x H Q=>∃i,x=.int i/\Q (g i) H
section
variable {X:Cx}{a b c:Expr}{ta tb tc:TE}{pos:Pos}
theorem Ak (ha:PE X a ta)(hb:PE X b tb){pins:List (Addr×Obj)}{s:Shared}{GK : St}{H:Hp}{R:V->V->Hp->Prop}(I:Inv X pins GK H s)
  (h:ta GK H fun x H1=>tb GK H1 fun y H2=>R x y H2) {Q:Value->Shared->Prop} {f:Value->Value->Sem Value}
  (hf:∀v u s2 x y H2,Inv X pins GK H2 s2->RelV x v->RelV y u->R x y H2->wpAny (model X.prog X.w) X.A (f v u) Q X.xe s2) :
  wpAny (model X.prog X.w) X.A (eval a X.env) (fun v s₁=>wpAny (model X.prog X.w) X.A (eval b X.env) (fun u s₂=>wpAny (model X.prog X.w) X.A (f v u) Q X.xe s₂) X.xe s₁) X.xe s:=by
 refine bg (ha pins s GK H _ I h) fun v s1 ⟨x,H1,I1,r1,q1⟩=>?_
 refine bg (hb pins s1 GK H1 _ I1 q1) fun u s2 ⟨y,H2,I2,r2,q2⟩=>?_
 exact hf v u s2 x y H2 I2 r1 r2 q2
theorem ba {op:Operator}{r:R2}(ho:dX X (binaryOp op) r)(ha:PE X a ta)(hb:PE X b tb):PE X (.BinOp a op b pos) (BY r ta tb):=by
 intro pins s GK H Q I h
 exact wpAny_BinOp (Ak ha hb I h fun v u s2 x y H2 I2 rx ry q=>ho pins s2 GK H2 x y v u Q I2 rx ry q)
theorem xt {op:UnaryOp}{r:V->Hp->VK->Prop}(ho:DG X (unaryOp op) r)(ha:PE X a ta):PE X (.UnaryOp op a pos) (Gn r ta):=by
 intro pins s GK H Q I h
 exact UnaryOp_ (bg (ha pins s GK H _ I h) fun v s1 ⟨x,H1,I1,r1,q1⟩=>ho pins s1 GK H1 x v Q I1 r1 q1)
theorem wm {f:Value->Value->Sem Value}{C:Int->Int->Prop}{g:Int->Int->Int}
  (rule:∀(i j:Int) (t u:Tok) (s:Shared) (Q:Value->Shared->Prop) (E:Value->Shared->Prop),C i j->Q (.int (g i j) s.toks) { s with toks:=s.toks+1 }->wpAny (model X.prog X.w) X.A (f (.int i t) (.int j u)) Q E s) :
  dX X f (rI C fun i j=>.int (g i j)):=by
 intro pins s GK H x y v u Q I rx ry h
 obtain⟨i,j,rfl,rfl,hc,q⟩:=h
 obtain⟨t,rfl⟩:=rx
 obtain⟨t',rfl⟩:=ry
 exact rule i j t t' s _ _ hc ⟨.int (g i j),H,I.tok _,⟨_,rfl⟩,q⟩
theorem DH {f:Value->Value->Sem Value}{g:Int->Int->Int}
  (rule:∀(i j:Int) (t u:Tok) (s:Shared) (Q:Value->Shared->Prop) (E:Value->Shared->Prop),Q (.int (g i j) s.toks) { s with toks:=s.toks+1 }->wpAny (model X.prog X.w) X.A (f (.int i t) (.int j u)) Q E s) :
  dX X f (uh fun i j=>.int (g i j)):=by
 intro pins s GK H x y v u Q I rx ry h
 obtain⟨i,j,rfl,rfl,q⟩:=h
 obtain⟨t,rfl⟩:=rx
 obtain⟨t',rfl⟩:=ry
 exact rule i j t t' s _ _ ⟨.int (g i j),H,I.tok _,⟨_,rfl⟩,q⟩
theorem Al {f:Value->Value->Sem Value}{g:Int->Int->Bool}
  (rule:∀(i j:Int) (t u:Tok) (s:Shared) (Q:Value->Shared->Prop) (E:Value->Shared->Prop),Q (.bool (g i j)) s->wpAny (model X.prog X.w) X.A (f (.int i t) (.int j u)) Q E s) :
  dX X f (uh fun i j=>.bl (g i j)):=by
 intro pins s GK H x y v u Q I rx ry h
 obtain⟨i,j,rfl,rfl,q⟩:=h
 obtain⟨t,rfl⟩:=rx
 obtain⟨t',rfl⟩:=ry
 exact rule i j t t' s _ _ ⟨.bl (g i j),H,I,rfl,q⟩
def FP (i j:Int):Prop:=0<j/\j<1073741824
def FQ (i j:Int):Prop:=0<=j/\j<=1000000/\i.natAbs<2 ^ 64
def Am (i j:Int):Prop:=(-(2 ^ 64)<i/\i<2 ^ 64)\/(-(2 ^ 64)<j/\j<2 ^ 64)
theorem Am.ok {i j:Int}(h:Am i j):IntMulOk i j:=by
 rcases h with ⟨h1,h2⟩ | ⟨h1,h2⟩
 ·exact .of_left (intBits_le_64 h1 h2)
 ·exact .of_right (intBits_le_64 h1 h2)
theorem cH:dX X (binaryOp .Add) (uh fun i j=>.int (i+j)):=DH fun _ _ _ _ _ _ _ q=>add_int q
theorem fb:dX X (binaryOp .Sub) (uh fun i j=>.int (i-j)):=DH fun _ _ _ _ _ _ _ q=>sub_int q
theorem iy:dX X (binaryOp .Mult) (rI Am fun i j=>.int (i*j)):=wm fun _ _ _ _ _ _ _ hc q=>mul_int q hc.ok
theorem wo:dX X (binaryOp .FloorDiv) (rI FP fun i j=>.int (i / j)):=wm fun i j _ _ _ _ _ hc q=>by
 have h1:(0:Int)<j:=hc.1
 have h2:j<1073741824:=hc.2
 exact floordiv_int (by omega) (by rw [Int.fdiv_eq_ediv_of_nonneg i (by omega)];exact q) (.inl (PyProof.noPylong_small (by omega)))
theorem i6:dX X (binaryOp .Mod) (rI (fun _ j=>0<j) fun i j=>.int (i % j)):=wm fun i j _ _ _ _ _ hc q=>by
 have h1:(0:Int)<j:=hc
 exact mod_int' (by omega) (by rw [Int.fmod_eq_emod_of_nonneg i (by omega)];exact q)
theorem lV:dX X (binaryOp .Pow) (rI FQ fun i j=>.int (i ^ j.toNat)):=wm fun _ _ _ _ _ _ _ hc q=>pow_int_small hc.1 hc.2.1 hc.2.2 q
theorem Gp {f:Value->Sem Value}{g:Int->Int}
  (rule:∀(i:Int) (t:Tok) (s:Shared) (Q:Value->Shared->Prop) (E:Value->Shared->Prop),Q (.int (g i) s.toks) { s with toks:=s.toks+1 }->wpAny (model X.prog X.w) X.A (f (.int i t)) Q E s) :
  DG X f (rU fun i=>.int (g i)):=by
 intro pins s GK H x v Q I rx h
 obtain⟨i,rfl,q⟩:=h
 obtain⟨t,rfl⟩:=rx
 exact rule i t s _ _ ⟨.int (g i),H,I.tok _,⟨_,rfl⟩,q⟩
theorem ui:DG X (unaryOp .USub) (rU fun i=>.int (-i)):=Gp fun _ _ _ _ _ q=>neg_int q
end
def An:V->V->Bool
 | .bC,.bC=>true | .bC,.int _=>true | .int _,.bC=>true | .bC,.bl _=>true | .bl _,.bC=>true | .bC,.str _=>true | .str _,.bC=>true
 | .int _,.int _=>true | .bl _,.bl _=>true | .str _,.str _=>true | .iW _,.iW _=>true
 | .int _,.str _=>true | .str _,.int _=>true | .bl _,.str _=>true | .str _,.bl _=>true
 | _,_=>false
def Gq:R2:=fun x y H Q=>An x y=true/\Q (.bl (decide (x=y))) H
def Gr:R2:=fun x y H Q=>An x y=true/\Q (.bl (!decide (x=y))) H
theorem wq {i j:Int}:decide (V.int i=V.int j)=(i == j):=by
 rw [IC]
 simp
theorem yF {i j:Bool}:decide (V.bl i=V.bl j)=(i == j):=by
 rw [IC]
 simp
theorem wu {i j:Str}:decide (V.str i=V.str j)=(i == j):=by
 rw [IC]
 simp
theorem wx {i j:Array UInt8}:decide (V.iW i=V.iW j)=(i.toList == j.toList):=by
 rw [IC]
 cases i
 cases j
 simp
section
variable {X:Cx}{a b c:Expr}{ta tb tc:TE}{pos:Pos}
theorem cn {pins:List (Addr×Obj)}{GK : St}{H:Hp}{s:Shared}{Q:VK}{k k':Bool}(I:Inv X pins GK H s)(q:Q (.bl k) H)(e:k=k'):EP X pins GK Q (.bool k') s:=by
 subst e
 exact⟨.bl k,H,I,rfl,q⟩
theorem bw:dX X (compareOp .Eq) Gq:=by
 intro pins s GK H x y v u Q I rx ry h
 obtain⟨hs,q⟩:=h
 cases x with
 | bC =>
  cases rx
  cases y with
  | bC=>cases ry;exact PySem.EqNone.eq_none_none (cn I q (by simp))
  | bl j=>cases ry;exact PySem.EqNone.eq_none_bool (cn I q (by simp))
  | int j=>obtain⟨t',rfl⟩:=ry;exact PySem.EqNone.eq_none_int (cn I q (by simp))
  | str j=>obtain⟨t',rfl⟩:=ry;exact PySem.EqNone.eq_none_str (cn I q (by simp))
  | _=>exact absurd (show false=true from hs) He
 | bl i =>
  cases rx
  cases y with
  | bC=>cases ry;exact PySem.EqNone.eq_bool_none (cn I q (by simp))
  | bl j=>cases ry;exact eq_bool (cn I q yF)
  | str j=>obtain⟨t',rfl⟩:=ry;exact PySem.EqMixed.eq_bool_str (cn I q (by simp))
  | _=>exact absurd (show false=true from hs) He
 | int i =>
  obtain⟨t,rfl⟩:=rx
  cases y with
  | bC=>cases ry;exact PySem.EqNone.eq_int_none (cn I q (by simp))
  | int j=>obtain⟨t',rfl⟩:=ry;exact eq_int (cn I q wq)
  | str j=>obtain⟨t',rfl⟩:=ry;exact PySem.EqMixed.eq_int_str (cn I q (by simp))
  | _=>exact absurd (show false=true from hs) He
 | str i =>
  obtain⟨t,rfl⟩:=rx
  cases y with
  | bC=>cases ry;exact PySem.EqNone.eq_str_none (cn I q (by simp))
  | bl j=>cases ry;exact PySem.EqMixed.eq_str_bool (cn I q (by simp))
  | int j=>obtain⟨t',rfl⟩:=ry;exact PySem.EqMixed.eq_str_int (cn I q (by simp))
  | str j=>obtain⟨t',rfl⟩:=ry;exact eq_str (cn I q wu)
  | _=>exact absurd (show false=true from hs) He
 | iW i =>
  obtain⟨t,rfl⟩:=rx
  cases y with
  | iW j=>obtain⟨t',rfl⟩:=ry;exact PySem.W.eq_bytes (cn I q wx)
  | _=>exact absurd (show false=true from hs) He
 | _=>cases y <;> exact absurd (show false=true from hs) He
theorem xu:dX X (compareOp .NotEq) Gr:=by
 intro pins s GK H x y v u Q I rx ry h
 obtain⟨hs,q⟩:=h
 cases x with
 | bC =>
  cases rx
  cases y with
  | bC=>cases ry;exact PySem.EqNone.ne_none_none (cn I q (by simp))
  | bl j=>cases ry;exact PySem.EqNone.ne_none_bool (cn I q (by simp))
  | int j=>obtain⟨t',rfl⟩:=ry;exact PySem.EqNone.ne_none_int (cn I q (by simp))
  | str j=>obtain⟨t',rfl⟩:=ry;exact PySem.EqNone.ne_none_str (cn I q (by simp))
  | _=>exact absurd (show false=true from hs) He
 | bl i =>
  cases rx
  cases y with
  | bC=>cases ry;exact PySem.EqNone.ne_bool_none (cn I q (by simp))
  | bl j=>cases ry;exact ne_bool (cn I q (congrArg not yF))
  | str j=>obtain⟨t',rfl⟩:=ry;exact PySem.EqMixed.ne_bool_str (cn I q (by simp))
  | _=>exact absurd (show false=true from hs) He
 | int i =>
  obtain⟨t,rfl⟩:=rx
  cases y with
  | bC=>cases ry;exact PySem.EqNone.ne_int_none (cn I q (by simp))
  | int j=>obtain⟨t',rfl⟩:=ry;exact ne_int (cn I q (congrArg not wq))
  | str j=>obtain⟨t',rfl⟩:=ry;exact PySem.EqMixed.ne_int_str (cn I q (by simp))
  | _=>exact absurd (show false=true from hs) He
 | str i =>
  obtain⟨t,rfl⟩:=rx
  cases y with
  | bC=>cases ry;exact PySem.EqNone.ne_str_none (cn I q (by simp))
  | bl j=>cases ry;exact PySem.EqMixed.ne_str_bool (cn I q (by simp))
  | int j=>obtain⟨t',rfl⟩:=ry;exact PySem.EqMixed.ne_str_int (cn I q (by simp))
  | str j=>obtain⟨t',rfl⟩:=ry;exact ne_str (cn I q (congrArg not wu))
  | _=>exact absurd (show false=true from hs) He
 | iW i =>
  obtain⟨t,rfl⟩:=rx
  cases y with
  | iW j=>obtain⟨t',rfl⟩:=ry;exact PySem.W.ne_bytes (cn I q (congrArg not wx))
  | _=>exact absurd (show false=true from hs) He
 | _=>cases y <;> exact absurd (show false=true from hs) He
theorem gH:dX X (compareOp .Lt) (uh fun i j=>.bl (decide (i<j))):=Al fun _ _ _ _ _ _ _ q=>lt_int q
theorem m9:dX X (compareOp .LtE) (uh fun i j=>.bl (decide (i<=j))):=Al fun _ _ _ _ _ _ _ q=>le_int q
theorem nc:dX X (compareOp .Gt) (uh fun i j=>.bl (decide (j<i))):=Al fun _ _ _ _ _ _ _ q=>gt_int q
theorem aJ (b:Expr){op:CmpOp}(h:op≠.In:=by decide)(h2:op≠.NotIn:=by decide):behindInMarks op b=false:=by
 have e1:(op == CmpOp.In)=false:=by cases op <;> first | rfl | exact absurd rfl h
 have e2:(op == CmpOp.NotIn)=false:=by cases op <;> first | rfl | exact absurd rfl h2
 cases b <;> simp [behindInMarks,e1,e2]
theorem ef {op:CmpOp}{r:R2}(ho:dX X (compareOp op) r)(ha:PE X a ta)(hb:PE X b tb)(hm:behindInMarks op b=false):PE X (.Compare a [op] [b] pos) (BY r ta tb):=by
 intro pins s GK H Q I h
 exact wpAny_Compare1 (Ak ha hb I h fun v u s2 x y H2 I2 rx ry q=>ho pins s2 GK H2 x y v u Q I2 rx ry q) hm
def E3 (t:TE):TT:=fun GK H Q=>t GK H fun x H'=>∃k,x=.bl k/\Q k H'
theorem aF {op:CmpOp}{r:R2}(ho:dX X (compareOp op) r)(ha:PE X a ta)(hb:PE X b tb)(hm:behindInMarks op b=false):PT X (.Compare a [op] [b] pos) (E3 (BY r ta tb)):=by
 intro pins s GK H Q I h
 refine wpAny_isTrue_Compare1 (bg (ha pins s GK H _ I h) fun v s1 ⟨x,H1,I1,r1,q1⟩=>bg (hb pins s1 GK H1 _ I1 q1) fun u s2 ⟨y,H2,I2,r2,q2⟩ =>
  bg (ho pins s2 GK H2 x y v u _ I2 r1 r2 q2) fun c s3 ⟨z,H3,I3,r3,k,e,q3⟩=>?_) hm
 subst e
 cases r3
 exact JJ ⟨H3,I3,q3⟩
def DI (r r':R2)(ta tb tc:TE):TE:=fun GK H Q=>ta GK H fun x H1=>tb GK H1 fun y H2=>r x y H2 fun z H3=>∃k,z=.bl k /\
 (if k=true then tc GK H3 fun w' H4=>r' y w' H4 Q else Q (.bl false) H3)
theorem Ao {op op':CmpOp}{r r':R2}(ho:dX X (compareOp op) r)(ho':dX X (compareOp op') r')(ha:PE X a ta)(hb:PE X b tb)(hc:PE X c tc)
  (hm:lastMarks [op,op'] [b,c]=false:=by with_unfolding_all rfl):PE X (.Compare a [op,op'] [b,c] pos) (DI r r' ta tb tc):=by
 intro pins s GK H Q I h
 refine Compare_chain (bg (ha pins s GK H _ I h) fun v s1 ⟨x,H1,I1,r1,q1⟩=>chain_link (bg (hb pins s1 GK H1 _ I1 q1) fun u s2 ⟨y,H2,I2,r2,q2⟩ =>
  bg (ho pins s2 GK H2 x y v u _ I2 r1 r2 q2) fun d s3 ⟨z,H3,I3,r3,k,e,q3⟩=>?_)) hm
 subst e
 cases r3
 refine JJ ?_
 cases k with
 | false=>exact ite_ff ⟨.bl false,H3,I3,rfl,q3⟩
 | true=>exact ite_tt (chain_last (bg (hc pins s3 GK H3 _ I3 q3) fun w' s4 ⟨z',H4,I4,r4,q4⟩=>ho' pins s4 GK H4 y z' u w' Q I4 r2 r4 q4))
def DJ (K:GP)(x:V)(H:Hp)(k:Bool):Prop :=
 match x with
 | .bC=>k=false
 | .bl b=>k=b
 | .int i=>k=(i != 0)
 | .str y=>y.length<=sizeLine/\k=((y.length:Int) != 0)
 | .iW y=>y.size<=sizeLine/\k=((y.size:Int) != 0)
 | .ref p=>(∃xs,aU K H p xs/\k = !xs.isEmpty)\/(∃xs,av K H p xs/\k = !xs.isEmpty)\/∃kvs,H p=some (.dK kvs)/\k = !kvs.isEmpty
 | _=>False
theorem xw {κ : Type}{kvs:List (κ×V)}{vs:List (κ×Value)}(r:KV kvs vs):(!vs.isEmpty) = !kvs.isEmpty:=by
 cases r <;> rfl
theorem o9 {xs:List V}{its:List Value}(r:Vals xs its):(!its.toArray.isEmpty) = !xs.isEmpty:=by
 cases r <;> simp
theorem i7:(sizeLine:Nat)<2 ^ 63:=by rw [sizeLine_eq];decide
theorem DK:FO X (fun x H Q=>∃k,DJ X.K x H k/\Q k H):=by
 intro pins s GK H x v Q I rx h
 obtain⟨k,e,q⟩:=h
 have hl:=i7
 have hs:sizeLine=16777216:=sizeLine_eq
 cases x with
 | bC =>
  cases rx
  have e':k=false:=e
  subst e'
  exact truthy_none ⟨H,I,q⟩
 | bl b =>
  cases rx
  have e':k=b:=e
  subst e'
  exact JJ ⟨H,I,q⟩
 | int i =>
  obtain⟨t,rfl⟩:=rx
  have e':k=(i != 0):=e
  subst e'
  exact PySem.P.truthy_int ⟨H,I,q⟩
 | str y =>
  obtain⟨t,rfl⟩:=rx
  obtain⟨hy,e'⟩:y.length<=sizeLine/\k=((y.length:Int) != 0):=e
  subst e'
  exact PySem.P.truthy_str (by omega) ⟨H,I.tok _,q⟩
 | iW y =>
  obtain⟨t,rfl⟩:=rx
  obtain⟨hy,e'⟩:y.size<=sizeLine/\k=((y.size:Int) != 0):=e
  subst e'
  exact PySem.W.truthy_bytes (by omega) ⟨H,I.tok _,q⟩
 | ref p =>
  cases rx
  have e':(∃xs,aU X.K H p xs/\k = !xs.isEmpty)\/(∃xs,av X.K H p xs/\k = !xs.isEmpty)\/∃kvs,H p=some (.dK kvs)/\k = !kvs.isEmpty:=e
  rcases e' with ⟨xs,hx,e'⟩ | ⟨xs,hx,e'⟩ | ⟨kvs,hx,e'⟩
  ·subst e'
   obtain⟨its,r,pl,hz⟩:=I.list hx
   have hlen:=r.length
   exact wpAny_truthy_list pl.isList (by simp only [Ha];omega) ⟨H,I.tok _,by rw [o9 r];exact q⟩
  ·subst e'
   obtain⟨its,r,pl,hz⟩:=I.tuple hx
   have hlen:=r.length
   exact truthy_tuple pl (by simp only [Ha];omega) ⟨H,I.tok _,by rw [o9 r];exact q⟩
  ·subst e'
   obtain⟨hz,hS,vs,r,m⟩:kvs.length<=sizeLine/\(p == sysModules)=false/\∃vs,KV kvs vs/\s.heap.DictOf (aT X.prog X.w) p vs:=I.aW p _ hx
   have hlen:kvs.length=vs.length:=Paired.length r
   exact wpAny_truthy_dict hS m (by omega) ⟨H,I.tok _,by rw [xw r];exact q⟩
 | _=>exact (show False from e).elim
theorem Ap (ha:PE X a ta)(he:∀whole,isTrue a X.env whole=(do let v <-whole;standAt a.pos;holding [v] (truthy v))) :
  PT X a (fun GK H Q=>ta GK H fun x H'=>∃k,DJ X.K x H' k/\Q k H'):=by
 intro pins s GK H Q I h
 exact isTrue_plain (bg (ha pins s GK H _ I h) fun v s1 ⟨x,H1,I1,r1,q1⟩=>DK pins s1 GK H1 x v Q I1 r1 q1) (he _)
theorem vals1 {x:V}{us:List Value}(r:Vals [x] us):∃u,us=[u]/\RelV x u:=by
 cases r with
 | cons r1 r2=>cases r2;exact⟨_,rfl,r1⟩
theorem vals2 {x y:V}{us:List Value}(r:Vals [x,y] us):∃u w',us=[u,w']/\RelV x u/\RelV y w':=by
 cases r with
 | cons r1 r2 =>
  cases r2 with
  | cons r3 r4=>cases r4;exact⟨_,_,rfl,r1,r3⟩
theorem yG (hc:X.calm=true):er X (.builtin "max") (fun xs H Q=>∃i j,xs=[.int i,.int j]/\Q (.int (if j > i then j else i)) H):=by
 intro pins s GK H xs us Q I r h
 obtain⟨i,j,rfl,q⟩:=h
 obtain⟨u,w',rfl,⟨t,rfl⟩,⟨t',rfl⟩⟩:=vals2 r
 refine max_two_ints (I.ok.hd hc) fun h' tk k=>⟨_,H,I.kept k,?_,q⟩
 by_cases hj:j > i
 ·rw [if_pos hj,if_pos hj];exact⟨_,rfl⟩
 ·rw [if_neg hj,if_neg hj];exact⟨_,rfl⟩
theorem lW (hc:X.calm=true):er X (.builtin "min") (fun xs H Q=>∃i j,xs=[.int i,.int j]/\Q (.int (if j<i then j else i)) H):=by
 intro pins s GK H xs us Q I r h
 obtain⟨i,j,rfl,q⟩:=h
 obtain⟨u,w',rfl,⟨t,rfl⟩,⟨t',rfl⟩⟩:=vals2 r
 refine min_two_ints (I.ok.hd hc) fun h' tk k=>⟨_,H,I.kept k,?_,q⟩
 by_cases hj:j<i
 ·rw [if_pos hj,if_pos hj];exact⟨_,rfl⟩
 ·rw [if_neg hj,if_neg hj];exact⟨_,rfl⟩
theorem jv:er X (.type "int") (fun xs H Q=>(∃i,xs=[.int i]/\Q (.int i) H)\/∃k,xs=[.bl k]/\Q (.int (if k then 1 else 0)) H):=by
 intro pins s GK H xs us Q I r h
 rcases h with ⟨i,rfl,q⟩ | ⟨k,rfl,q⟩
 ·obtain⟨u,rfl,t,rfl⟩:=vals1 r
  exact call_int_int ⟨.int i,H,I,⟨_,rfl⟩,q⟩
 ·obtain⟨u,rfl,r1⟩:=vals1 r
  cases r1
  exact call_int_bool ⟨.int (if k then 1 else 0),H,I.tok _,⟨_,rfl⟩,q⟩
end
structure oz (h:Heap) (x dx C:Addr) (mA:Str->Option Value):Prop where
 obj:h.get? x=some (HX C dx)
 ns:h.Ns1 dx mA
 ne:dx≠x
theorem yH {h:Heap}{dx:Addr}{mA:Str->Option Value}(n:h.Ns1 dx mA):∃od,h.get? dx=some od/\∀name,IT name od=some (mA name):=by
 obtain⟨o,es,ep,ho,hd,hk,_,hm⟩:=n
 refine⟨o,ho,fun name=>?_⟩
 have e:=hm name
 unfold nsFind findBy at e
 rw [<-Array.find?_toList] at e
 unfold IT
 rw [hd]
 dsimp only
 split
 ·rename_i y q
  rw [q] at e
  exact congrArg some e
 ·rename_i q
  rw [q] at e
  have a:es.toList.any (·.refKey)=false:=by
   rw [List.any_eq_false]
   intro y hy
   obtain⟨z,t,hkey⟩:=hk y (Array.mem_toList_iff.mp hy)
   simp [DictEntry.refKey,hkey]
  have a':¬es.toList.any (·.refKey)=true:=by rw [a];exact He
  rw [if_neg a']
  exact congrArg some e
theorem oz.look {h:Heap}{x dx C:Addr}{mA:Str->Option Value}(I:oz h x dx C mA):∃od,PySem.W.InstAt h x (HX C dx) C (some od)/\∀name,IT name od=some (mA name) :=
 let ⟨od,ho,hl⟩:=yH I.ns
 ⟨od,⟨I.obj,rfl,rfl,ho⟩,hl⟩
section
variable {prog:Program}{w:World}{A:Around}{E:Value->Shared->Prop}{s:Shared}{K:GP}{x dx C f:Addr}{mA:Str->Option Value}{name:Str}{v:Value}
theorem get_map {expr:Bool}{Q:Value->Shared->Prop}(X:K.In s.heap)(I:oz s.heap x dx C mA)(hg:ID K C name=true)(hh:IU K C=true)
  (ha:Hx K (.ref C) name=some none) (hv:mA name=some v) (hv':PySem.W.handedIn v=true) (h:Q v { s with toks:=s.toks+1 }) :
  wpAny (model prog w) A (getAttr (.ref x) name expr) Q E s:=by
 obtain⟨od,J,hl⟩:=I.look
 exact PySem.W.get_value X J (Jp hg).1 (PySem.W.findObj_own hh ha rfl (by rw [hl,hv])) hv' h
theorem Aq {pl:Sem Bool}{Q:Value×List Value->Shared->Prop}(X:K.In s.heap)(I:oz s.heap x dx C mA)(hg:ID K C name=true)
  (hf:Hx K (.ref C) name=some (some (.ref f))) (ht:IE K (.ref f)=true) (hv:mA name=none) (h:Q (.ref f,[.ref x]) s) :
  wpAny (model prog w) A (getMethod (.ref x) name pl) Q E s:=by
 obtain⟨od,J,hl⟩:=I.look
 exact PySem.W.method_fn X J (Jp hg).1 (Jp hg).2 hf (beq_iff_eq.mp ht) (by show (IT name od).map (·.isSome)=some false;rw [hl,hv];rfl) h
theorem CB {ns:List Str}{Q:Unit->Shared->Prop}(X:K.In s.heap)(I:oz s.heap x dx C mA)
  (hs:Hx K (.ref C) "__setattr__" = some (some (.builtin "object.__setattr__"))) (hp:Jq K C=true) (ht:PySem.W.takerIn K C name=some none) (hh:IU K C=true)
  (hw:PySem.Within mA ns) (hsz:ns.length<=sizeLine)
  (h:∀h',oz h' x dx C (fun y=>if y=name then some v else mA y)->Hk dx s.heap h'->Q () { s with heap:=h',toks:=s.toks+2 }) :
  wpAny (model prog w) A (setAttr (.ref x) name v) Q E s:=by
 obtain⟨od,J,hl⟩:=I.look
 refine PySem.W.set_plain X J hs (PySem.W.osa_open (s:={ s with toks:=s.toks+1 }) (r:=none) X J hp ht fun b=>?_)
 obtain⟨cd,hc,hd'⟩:=PySem.W.any_some hh
 have hx:s.heap.get? x=some ⟨.ref C,some dx,.plain,#[]⟩:=I.obj
 refine Jx (Jy (Jx (Jx (wpAny_loadPart hx (Jx (PySem.W.Looks.here (s:={ s with toks:=s.toks+1 }) (PySem.W.looks_clsIn X hc) ?_))))))
 rw [hd']
 refine Jy (a:=some dx) (Jx (Jy (Jx ?_)))
 refine wpAny_nsSet1 (s:={ s with toks:=s.toks+1 }) I.ns fun h' hn2 hs2=>?_
 obtain⟨oD,esD,epD,hoD,hdD,hcD⟩:=hn2.count (PySem.Within.cons name v hw)
 refine Jx (wpAny_lookBehind hoD (by rw [hdD];exact pastItsLine_dict (GY hcD (by rw [Hq];omega))) ?_)
 exact Jy (h _ ⟨(hs2.2 _ (Ne.symm I.ne)).trans I.obj,hn2,I.ne⟩ hs2)
theorem Ar {R:Result->Shared->Prop}{vs:List Value}{kw:List (Str×Value)}(X:K.In s.heap)(hm:IV K C=true)
  (hi:Hx K (.ref C) "__init__" = some (some (.ref f))) (hf:PySem.W.typeIn K (.ref f)=some (.type "function"))
  (h:codeAny (model prog w) (A.under (.builtin "type.__call__" ⟨.ref C::vs,kw⟩)) (.call (.ref f) ⟨.ref (s.heap.objs.size+1)::vs,kw⟩) (PySem.W.InitBack (s.heap.objs.size+1) R)
   { s with heap:=(s.heap.push HN).push (HX C s.heap.objs.size) }) :
  codeAny (model prog w) A (.call (.ref C) ⟨vs,kw⟩) R s:=by
 obtain⟨hh,g,d,t,os⟩:=s
 exact PySem.W.make_core (PySem.W.makes_of X hm) (PySem.W.looks_findIn X hi) (fun self=>PySem.W.bind_fn X self hf) (.inl rfl) h
end
def eC (f:Str)(v:V):List (Str×V)->List (Str×V)
 | []=>[(f,v)]
 | (g,x)::r=>if g=f then (g,v)::r else (g,x)::eC f v r
theorem nQ (f g:Str)(v:V):∀fs:List (Str×V),(eC f v fs).lookup g=if g=f then some v else fs.lookup g
 | []=>by
  show HA g [(f,v)]=_
  by_cases h:g=f
  ·have hb:(g == f)=true:=beq_iff_eq.mpr h
   simp only [HA,hb,if_pos h]
  ·have hb:(g == f)=false:=beq_eq_false_iff_ne.mpr h
   simp only [HA,hb,if_neg h]
 | (k,x)::r=>by
  have ih:=nQ f g v r
  rw [show eC f v ((k,x)::r)=(if k=f then (k,v)::r else (k,x)::eC f v r) from rfl]
  by_cases hk:k=f
  ·rw [if_pos hk]
   by_cases h:g=k
   ·have hb:(g == k)=true:=beq_iff_eq.mpr h
    simp only [HA,hb,if_pos (h.trans hk)]
   ·have hb:(g == k)=false:=beq_eq_false_iff_ne.mpr h
    simp only [HA,hb,if_neg (fun e:g=f=>h (e.trans hk.symm))]
  ·rw [if_neg hk]
   by_cases h:g=k
   ·have hb:(g == k)=true:=beq_iff_eq.mpr h
    simp only [HA,hb,if_neg (fun e:g=f=>hk (h.symm.trans e))]
   ·have hb:(g == k)=false:=beq_eq_false_iff_ne.mpr h
    simp only [HA,hb]
    exact ih
theorem lX (f:Str)(v:V):∀fs:List (Str×V),f∈(eC f v fs).map (·.1)/\∀g,g∈fs.map (·.1)->g∈(eC f v fs).map (·.1)
 | []=>⟨by simp [eC],fun g h=>by simp at h⟩
 | (k,x)::r=>by
  obtain⟨i1,i2⟩:=lX f v r
  rw [show eC f v ((k,x)::r)=(if k=f then (k,v)::r else (k,x)::eC f v r) from rfl]
  by_cases hk:k=f
  ·rw [if_pos hk]
   subst hk
   exact⟨by simp,fun g h=>by simpa using h⟩
  ·rw [if_neg hk]
   refine⟨?_,fun g h=>?_⟩
   ·rw [Hh]
    exact G1 _ i1
   ·rw [Hh] at h ⊢
    rcases GS.mp h with e | e
    ·exact GS.mpr (.inl e)
    ·exact G1 _ (i2 g e)
theorem nR (f:Str)(v:V):∀fs:List (Str×V),(eC f v fs).length<=fs.length+1
 | []=>by simp [eC]
 | (k,x)::r=>by
  have ih:=nR f v r
  rw [show eC f v ((k,x)::r)=(if k=f then (k,v)::r else (k,x)::eC f v r) from rfl]
  by_cases hk:k=f
  ·rw [if_pos hk,Hq,Hq];omega
  ·rw [if_neg hk,Hq,Hq];omega
theorem eY.some_of {v:V}{o:Option Value}(r:eY (some v) o):∃u,o=some u/\RelV v u:=by
 cases o with
 | none=>exact (show False from r).elim
 | some u=>exact⟨u,rfl,r⟩
theorem eY.none_of {o:Option Value}(r:eY none o):o=none:=by
 cases o with
 | none=>rfl
 | some u=>exact (show False from r).elim
theorem yI {v:V}{u:Value}(r:RelV v u):PySem.W.handedIn u=true:=by
 cases v with
 | bC=>cases (show u=Value.none from r);rfl
 | bl b=>cases (show u=Value.bool b from r);rfl
 | int i=>obtain⟨t,e⟩:=(show ∃t,u=Value.int i t from r);cases e;rfl
 | str x=>obtain⟨t,e⟩:=(show ∃t,u=Value.str x t from r);cases e;rfl
 | iW b=>obtain⟨t,e⟩:=(show ∃t,u=Value.bytes b t from r);cases e;rfl
 | yz b=>obtain⟨t,e⟩:=(show ∃t,u=Value.float b t from r);cases e;rfl
 | ref a=>cases (show u=Value.ref a from r);rfl
 | ty n=>cases (show u=Value.type n from r);rfl
section
variable {P:Program}{w:World}{H H':Hp}{h h':Heap}{a C dx:Addr}{fs fs':List (Str×V)}
theorem qF (aW:d7 P w H h)(e:H a=some (.ins C dx fs)):∃mA,oz h a dx C mA/\(∀f,eY (fs.lookup f) (mA f))/\PySem.Within mA (fs.map (·.1))/\fs.length<=1000/\H dx=some (.own a):=by
 obtain⟨d,z,ne,ob,mA,n,r,q⟩:=(show cy P w H h a (.ins C dx fs) from aW a _ e)
 exact⟨mA,⟨ob,n,ne⟩,r,q,z,d⟩
end
structure lY (K:GP) (C:Addr):Prop where
 pg:ID K C Str.empty=true
 hd:IU K C=true
 po:Jq K C=true
 sa:Hx K (.ref C) "__setattr__" = some (some (.builtin "object.__setattr__"))
theorem lY.get {K:GP}{C:Addr}(c:lY K C)(f:Str):ID K C f=true:=c.pg
def iz (K:GP)(C:Addr)(f:Str):Prop:=Hx K (.ref C) f=some none
theorem iz.E4 {K:GP}{C:Addr}{f:Str}(n:iz K C f):PySem.W.takerIn K C f=some none:=by
 unfold PySem.W.takerIn
 rw [show Hx K (.ref C) f=some none from n]
 rfl
structure Meth (K:GP) (C:Addr) (m:Str) (f:Addr):Prop where
 at_:Hx K (.ref C) m=some (some (.ref f))
 fn:IE K (.ref f)=true
 kp:HF K (.ref f)=true
section
variable {X:Cx}{pins:List (Addr×Obj)}{GK : St}{H:Hp}{s:Shared}{a C dx:Addr}{fs:List (Str×V)}{f:Str}{v:V}{A:Around}{E:Value->Shared->Prop}
theorem xx {b:Bool}{Q:Value->Shared->Prop}(I:Inv X pins GK H s)(e:H a=some (.ins C dx fs))(c:lY X.K C)(n:iz X.K C f)(l:fs.lookup f=some v)
  (h:∀u s',Inv X pins GK H s'->RelV v u->Q u s'):wpAny (model X.prog X.w) A (getAttr (.ref a) f b) Q E s:=by
 obtain⟨mA,O,r,_,_,_⟩:=qF I.aW e
 obtain⟨u,hu,ru⟩:=eY.some_of (v:=v) (o:=mA f) (by rw [<-l];exact r f)
 exact get_map I.iK O (c.get f) c.hd n hu (yI ru) (h u _ (I.tok _) ru)
theorem xy {m:Str}{g:Addr}{pl:Sem Bool}{Q:Value×List Value->Shared->Prop}(I:Inv X pins GK H s)(e:H a=some (.ins C dx fs))(c:lY X.K C)(k:Meth X.K C m g)(l:fs.lookup m=none)
  (h:Q (.ref g,[.ref a]) s):wpAny (model X.prog X.w) A (getMethod (.ref a) m pl) Q E s:=by
 obtain⟨mA,O,r,_,_,_⟩:=qF I.aW e
 have hn:mA m=none:=eY.none_of (by rw [<-l];exact r m)
 exact Aq I.iK O (c.get m) k.at_ k.fn hn h
theorem xA {y:V}{u:Value}{Q:Unit->Shared->Prop}(I:Inv X pins GK H s)(e:H a=some (.ins C dx fs))(c:lY X.K C)(n:iz X.K C f)(hl:fs.length<1000)(ry:RelV y u)
  (h:∀s',Inv X pins GK (upd H a (.ins C dx (eC f y fs))) s'->Q () s'):wpAny (model X.prog X.w) A (setAttr (.ref a) f u) Q E s:=by
 obtain⟨mA,O,r,wi,_,ho⟩:=qF I.aW e
 have hz:(fs.map (·.1)).length<=sizeLine:=by rw [GO,sizeLine_eq];omega
 refine CB I.iK O c.sa c.po n.E4 c.hd wi hz fun h' O' sb=>h _ ?_
 have hd:∃o,h'.get? dx=some o:=let ⟨o,_,_,e',_⟩:=O'.ns;⟨o,e'⟩
 refine I.write (x:=a) (e:=dx) (by rw [e];exact True.intro) (.inr ho) (fun b q hb z=>(sb.2 b hb).trans z) hd ?_
 refine⟨by rw [au O.ne];exact ho,?_,O.ne,O'.obj,_,O'.ns,fun g=>?_,fun g hg=>?_⟩
 ·have:=nR f y fs;omega
 ·show eY ((eC f y fs).lookup g) (if g=f then some u else mA g)
  rw [nQ]
  by_cases q:g=f
  ·rw [if_pos q,if_pos q];exact ry
  ·rw [if_neg q,if_neg q];exact r g
 ·by_cases q:g=f
  ·rw [q];exact (lX f y fs).1
  ·refine (lX f y fs).2 g (wi g fun z=>hg ?_)
   show (if g=f then some u else mA g)=none
   rw [if_neg q];exact z
theorem Inv.made (I:Inv X pins GK H s):Inv X pins GK (upd (upd H s.heap.objs.size (.own (s.heap.objs.size+1))) (s.heap.objs.size+1) (.ins C s.heap.objs.size []))
  { s with heap:=(s.heap.push HN).push (HX C s.heap.objs.size) }:=by
 have e1:(s.heap.push HN).get? s.heap.objs.size=some HN:=GX s.heap rfl
 have e2:((s.heap.push HN).push (HX C s.heap.objs.size)).get? (s.heap.objs.size+1)=some (HX C s.heap.objs.size):=by
  have:=GX (s.heap.push HN) (o:=HX C s.heap.objs.size) rfl
  rwa [Hc] at this
 have e3:(s.heap.push HN).Ns s.heap.objs.size (fun _=>none):=⟨HN,#[],_,e1,rfl,(fun e he=>absurd he (by simp)),fun _=>rfl⟩
 have I1:=I.laid (a:=s.heap.objs.size) (o:=.own (s.heap.objs.size+1)) (h':=s.heap.push HN) (t':=s.toks) (fun b u q=>GV _ q) (GQ _) ⟨_,e1⟩
 refine I1.laid (a:=s.heap.objs.size+1) (o:=.ins C s.heap.objs.size []) (t':=s.toks) (fun b u q=>GV _ q) (Nat.le_of_eq (Hc _ _)) ?_
 have ne:s.heap.objs.size≠s.heap.objs.size+1:=G0 (HG _)
 refine⟨by rw [au ne,af],Hg _,ne,e2,fun _=>none,(Heap.Ns1.of_empty e3).at fun o q=>GV _ q,fun _=>True.intro,fun y hy=>absurd rfl hy⟩
theorem CC {prog:Program}{w:World}{env:Env}{e:Expr}{f:Str}{pos:Pos}{s:Shared}{Q:Value->Shared->Prop}(hb:attributeBase e f env (eval e env)=eval e env)
  (h:wpAny (model prog w) A (eval e env) (fun o s₁=>wpAny (model prog w) A (getAttr o f true) Q E s₁) E s):wpAny (model prog w) A (eval (.Attribute e f pos) env) Q E s :=
 Attribute_any_ h (by rw [arm_eval_Attribute,hb])
end
def DL (K:GP)(ta:TE)(f:Str):TE:=fun GK H Q=>ta GK H fun x H1=>∃a C dx fs v,x=.ref a/\H1 a=some (.ins C dx fs)/\lY K C/\iz K C f/\fs.lookup f=some v/\Q v H1
def FR (K:GP)(ta tv:TE)(f:Str):TS:=fun D GK H=>tv GK H fun y H1=>ta GK H1 fun x H2=>∃a C dx fs,x=.ref a/\H2 a=some (.ins C dx fs)/\lY K C/\iz K C f/\fs.length<1000 /\
 D.nx GK (upd H2 a (.ins C dx (eC f y fs)))
section
variable {X:Cx}{o e value:Expr}{f:Str}{pos pos' tpos:Pos}{ta tv:TE}
theorem gI (he:PE X e ta)(hb:attributeBase e f X.env (eval e X.env)=eval e X.env):PE X (.Attribute e f pos) (DL X.K ta f):=by
 intro pins s GK H Q I h
 refine CC hb (bg (he pins s GK H _ I h) fun u s1 ⟨x,H1,I1,rx,a,C,dx,fs,v,ex,ea,c,n,l,q⟩=>?_)
 subst ex
 obtain rfl:u=Value.ref a:=rx
 exact xx I1 ea c n l fun u' s2 I2 ru=>⟨v,H1,I2,ru,q⟩
theorem yJ (ha:PE X o ta)(hv:PE X value tv)(hs:swapsWith value (some (.Attribute o f pos')) pos.line X.env=pure false):PS X (.Assign [.Attribute o f pos'] value pos) (FR X.K ta tv f):=by
 intro pins s GK H D I h
 refine plainObj_wpAny_Assign_Attribute (bg (hv pins s GK H _ I h) fun u s1 ⟨y,H1,I1,ry,q⟩=>bg (ha pins s1 GK H1 _ I1 q) fun ov s2 ⟨x,H2,I2,rx,a,C,dx,fs,ex,ea,c,n,l,q2⟩=>?_) hs
 subst ex
 obtain rfl:ov=Value.ref a:=rx
 exact xA I2 ea c n l ry fun s3 I3=>⟨GK,_,I3,q2⟩
end
section
variable {X:Cx}{pins:List (Addr×Obj)}{GK : St}{H:Hp}{s:Shared}{A:Around}{E:Value->Shared->Prop}{Q:Value->Shared->Prop}{c:Value}{b:Bool}
end
structure dq (k:Nat) (A:Around):Prop where
 hd:A.handled=none
 dp:A.depth+3*k+5<recursionLimit
 un:A.units+16*k+200<cLine
theorem dq.mono {j k:Nat}{A:Around}(r:dq k A)(h:j<=k):dq j A:=⟨r.hd,by have:=r.dp;omega,by have:=r.un;omega⟩
theorem dq.deeper {k:Nat}{A:Around}(r:dq (k+1) A)(env:Env):dq k (A.deeper env) :=
 ⟨r.hd,by have:=r.dp;show A.depth+1+3*k+5<_;omega,by have:=r.un;show A.units+3+16*k+200<_;omega⟩
theorem xB {A:Around} {C:Addr} {us:List Value} {kw:List (Str×Value)}:(A.under (.builtin "type.__call__" ⟨.ref C::us,kw⟩)).depth=A.depth+1:=by
 first | rfl | simp [Around.under,Code.weight,Code.isCreation,Code.isGuard,Code.isCaller,Code.frames,Code.isFrame,guardIds]
theorem xC {A:Around} {C:Addr} {us:List Value} {kw:List (Str×Value)}:(A.under (.builtin "type.__call__" ⟨.ref C::us,kw⟩)).units=A.units+1:=by
 first | rfl | simp [Around.under,Code.cUnits,Code.frames,Code.isFrame]
theorem dq.make {k:Nat} {A:Around} (r:dq (k+1) A) (C:Addr) (us:List Value) (kw:List (Str×Value)):dq k (A.under (.builtin "type.__call__" ⟨.ref C::us,kw⟩)) :=
 ⟨r.hd,by have:=r.dp;rw [xB];omega,by have:=r.un;rw [xC];omega⟩
theorem dq.depth {k:Nat}{A:Around}(r:dq k A):A.depth<recursionLimit:=by have:=r.dp;omega
theorem dq.units {k:Nat}{A:Around}(r:dq k A):A.units+64<cLine:=by have:=r.un;omega
def xD:TA:=fun _ H Q=>Q [] H
def iN (ta:TE)(tr:TA):TA:=fun GK H Q=>ta GK H fun x H1=>tr GK H1 fun xs H2=>Q (x::xs) H2
section
variable {X:Cx}{e:Expr}{es:List Expr}{te:TE}{t:TA}{pos:Pos}
theorem ae:PA X [] xD:=fun _ _ _ _ H Q I h=>Calls.spliced_nil ⟨[],H,I,.nil,h⟩
theorem aa (ha:PE X e te)(hr:PA X es t)(hs:starEach (e::es) X.env=(false,eval e X.env)::starEach es X.env:=by rfl):PA X (e::es) (iN te t):=by
 intro pos pins s GK H Q I h
 rw [hs]
 show wpAny _ _ (spliced ((false,eval e X.env)::backTo pos (starEach es X.env))) _ _ s
 refine Calls.spliced_cons (bg (ha pins s GK H _ I h) fun u s1 ⟨x,H1,I1,r1,q1⟩=>?_)
 exact bg (hr pos pins s1 GK H1 _ I1 q1) fun us s2 ⟨xs,H2,I2,r2,q2⟩=>⟨x::xs,H2,I2,.cons r1 r2,q2⟩
def FT (t:TA):TE:=fun GK H Q=>t GK H fun xs H1=>xs.length<=sizeLine/\∀p,H1 p=none->Q (.ref p) (upd H1 p (.tup xs))
def FU (t:TA):TE:=fun GK H Q=>t GK H fun xs H1=>xs.length<=sizeLine/\∀p,H1 p=none->Q (.ref p) (upd H1 p (.lst xs))
theorem aV {x1}(h:PA X es t):PE X (.Tuple es x1 pos) (FT t):=by
 intro pins s GK H Q I hq
 refine wpAny_Tuple_spliced (bg (h pos pins s GK H _ I hq) fun us s1 ⟨xs,H1,I1,r,z,q⟩=>⟨by rw [<-r.length];exact z,?_⟩)
 have hf:H1 s1.heap.objs.size=none:=I1.aW.fresh (GQ _)
 refine⟨.ref s1.heap.objs.size,upd H1 s1.heap.objs.size (.tup xs),I1.laid (t':=s1.toks) (fun b u e=>GV _ e) (GQ _) ?_,rfl,q _ hf⟩
 exact⟨z,us,r,⟨_,GX _ rfl,rfl,_,rfl,rfl⟩⟩
theorem cX (h:PA X es t):PE X (.List es pos) (FU t):=by
 intro pins s GK H Q I hq
 refine wpAny_List_spliced (bg (h pos pins s GK H _ I hq) fun us s1 ⟨xs,H1,I1,r,z,q⟩=>⟨by rw [<-r.length];exact z,?_⟩)
 have hf:H1 s1.heap.objs.size=none:=I1.aW.fresh (GQ _)
 refine⟨.ref s1.heap.objs.size,upd H1 s1.heap.objs.size (.lst xs),I1.laid (t':=s1.toks) (fun b u e=>GV _ e) (GQ _) ?_,rfl,q _ hf⟩
 exact⟨z,us,0,r,GX _ rfl⟩
end
abbrev Sp:=List V->Hp->VK->XK->Prop
abbrev lZ:=List Env->Hp->Shared->XK->Value->Shared->Prop
structure oA (P:Program) (w:World) (K:GP) (mg:Str->Option Value) (base:Heap) (A:Around) (outer:List Env) (s:Shared) (H:Hp):Prop where
 frames:A.frames=some outer
 mod:Mod K mg base
 bs:∀b o,base.get? b=some o->s.heap.get? b=some o/\H b=none
 o6:base.objs.size<=s.heap.objs.size
 iF:s.heap.FunFrames base outer
 tZ:∀b∈lR outer,H b=none
 aW:d7 P w H s.heap
 bare:AllBare s.gens
def CE (outer:List Env)(P:Program)(w:World)(H:Hp)(s:Shared)(Q:VK)(u:Value)(s':Shared):Prop :=
 ∃v H',s'.os=s.os/\AllBare s'.gens/\Un (lR outer) [] H H' s.heap s'.heap/\d7 P w H' s'.heap/\RelV v u/\Q v H'
def CR (CX:lZ)(outer:List Env)(P:Program)(w:World)(H:Hp)(s:Shared)(Q:VK)(E:XK)(r:Result)(s':Shared):Prop :=
 match r with
 | .ok (.ret u)=>CE outer P w H s Q u s'
 | .ok _=>False
 | .error e=>CX outer H s E e s'
structure bp (P:Program) (w:World) (K:GP) (mg:Str->Option Value) (base:Heap) (CX:lZ) (k:Nat) (f:Addr) (fd:FuncData) (ps:List Str) (sp:Sp):Prop where
 len:∀vs H Q E,sp vs H Q E->vs.length=ps.length
 run:∀(A:Around) (outer:List Env) (s:Shared) (H:Hp) (args:Args) (us:List Value) (vs:List V) (Q:VK) (E:XK),dq k A->oA P w K mg base A outer s H->BindsTo s fd args (ps.zip us)->Vals vs us->sp vs H Q E ->
  codeAny (model P w) A (.call (.ref f) args) (CR CX outer P w H s Q E) s
theorem oA.make {P:Program}{w:World}{K:GP}{mg:Str->Option Value}{base:Heap}{A:Around}{outer:List Env}{s:Shared}{H:Hp}(e:oA P w K mg base A outer s H)(C:Addr)(us:List Value)(kw:List (Str×Value)) :
  oA P w K mg base (A.under (.builtin "type.__call__" ⟨.ref C::us,kw⟩)) outer s H:=⟨by first | exact e.frames | (simpa [Around.under,Code.envs,Code.isFrame,pushEnvs] using e.frames),e.mod,e.bs,e.o6,e.iF,e.tZ,e.aW,e.bare⟩
section
variable {X:Cx}{pins:List (Addr×Obj)}{GK : St}{H:Hp}{s s':Shared}
theorem Inv.DM (I:Inv X pins GK H s):oA X.prog X.w X.K X.mg X.base X.A X.stack s H :=
 ⟨I.ok.frames,I.ok.mod,I.bs,GY I.ok.o6 I.sz,I.stack,I.wb,I.aW,I.bare⟩
theorem Inv.after {Q:VK}{u:Value}(I:Inv X pins GK H s)(h:CE X.stack X.prog X.w H s Q u s'):EP X pins GK Q u s':=by
 obtain⟨v,H',os,bare,un,aW,r,q⟩:=h
 obtain⟨hh,g,d,t,os'⟩:=s'
 obtain rfl:os' = s.os:=os
 exact⟨v,H',I.call (h':=hh) (g':=g) (d':=d) (t':=t) (ch:=[]) un aW bare (fun b z=>absurd z (by simp)),r,q⟩
end
def xE (sp:Sp)(dvs:List V)(E:XK)(t:TA):TE:=fun GK H Q=>t GK H fun vs H1=>sp (vs++dvs) H1 Q E
def BZ (C:Addr)(m:Str)(sp:Sp)(dvs:List V)(E:XK)(ta:TE)(t:TA):TE:=fun GK H Q=>ta GK H fun x H1=>∃a dx fs,x=.ref a/\H1 a=some (.ins C dx fs)/\fs.lookup m=none /\
 t GK H1 fun vs H2=>sp (x::(vs++dvs)) H2 Q E
def B0 (C:Addr)(sp:Sp)(dvs:List V)(E:XK)(t:TA):TE:=fun GK H Q=>t GK H fun vs H1=>∀x dx,H1 x=none->H1 dx=none->dx≠x ->
 sp (.ref x::(vs++dvs)) (upd (upd H1 dx (.own x)) x (.ins C dx [])) (fun v H2=>v=.bC/\Q (.ref x) H2) E
def Binds (K:GP)(fd:FuncData)(ps:List Str)(ds:List Value):Prop :=
 ∀(s:Shared) (us:List Value),K.In s.heap->(us++ds).length=ps.length->BindsTo s fd ⟨us,[]⟩ (ps.zip (us++ds))
theorem Binds.all {K:GP}{fd:FuncData}{ps:List Str}(h:∀us:List Value,us.length=ps.length->bindArgs fd ⟨us,[]⟩=pure (ps.zip us)):Binds K fd ps []:=fun s us _ hl=>by
 rw [Im] at hl ⊢
 exact .of_eq (h us hl)
def Passes (CX:lZ)(X:Cx)(E:XK):Prop:=∀(pins:List (Addr×Obj)) (GK : St) (H:Hp) (s:Shared) (e:Value) (s':Shared),Inv X pins GK H s->CX X.stack H s E e s'->X.xe e s'
section
variable {X:Cx}{CX:lZ}{k:Nat}{f C:Addr}{fd:FuncData}{ps:List Str}{sp:Sp}{dvs:List V}{ds:List Value}{E:XK}{x m:Str}{p pos apos:Pos}{e o:Expr}{es:List Expr}{ta:TE}{t:TA}
theorem yK {pins:List (Addr×Obj)}{GK : St}{H:Hp}{s:Shared}{Q:VK}{us:List Value}{vs:List V}(F:bp X.prog X.w X.K X.mg X.base CX k f fd ps sp)(hr:dq k X.A)(hb:Binds X.K fd ps ds)(hd:Vals dvs ds)(hx:Passes CX X E)
  (I:Inv X pins GK H s) (r:Vals vs us) (h:sp (vs++dvs) H Q E):wpAny (model X.prog X.w) X.A (call (.ref f) us) (EP X pins GK Q) X.xe s:=by
 have r2:Vals (vs++dvs) (us++ds):=r.append hd
 have hl:(us++ds).length=ps.length:=by rw [<-r2.length];exact F.len _ _ _ _ h
 refine wpAny_call (JK (F.run X.A X.stack s H ⟨us,[]⟩ (us++ds) (vs++dvs) Q E hr I.DM (hb s us I.iK hl) r2 h) fun r s' hq=>?_)
 cases r with
 | error e=>exact hx pins GK H s e s' I hq
 | ok fl =>
  cases fl with
  | ret u=>exact I.after hq
  | next=>exact False.elim hq
  | brk=>exact False.elim hq
  | cont=>exact False.elim hq
theorem CF (F:bp X.prog X.w X.K X.mg X.base CX k f fd ps sp)(hr:dq k X.A)(hg:Gl X x)(hm:X.mg x=some (.ref f))(hk:HF X.K (.ref f)=true)(hb:Binds X.K fd ps ds)(hd:Vals dvs ds)(hx:Passes CX X E)
  (ha:PA X (e::es) t) (hdb:(x == ("__debug__" : Str))=false:=by decide) (he:starEach (e::es) X.env=(false,eval e X.env)::starEach es X.env:=by rfl) (hpl:(backTo pos (starEach es X.env)).any (·.1)=false:=by rfl) :
  PE X (.Call (.Name x p) (e::es) [] pos) (xE sp dvs E t):=by
 intro pins s GK H Q I h
 refine JU (qE I hg hm ?_ hdb)
 refine Jr (h₀:=X.base) I.ok.mod.jX hk (bg (ha pos pins s GK H _ I h) fun us s1 ⟨vs,H1,I1,r,q⟩=>⟨I1.iK,?_⟩) he hpl
 exact yK F hr hb hd hx I1 r q
theorem CG {pl:Sem Bool}(he:PE X o ta)(c:lY X.K C)(hm:Meth X.K C m f)(F:bp X.prog X.w X.K X.mg X.base CX k f fd ps sp)(hr:dq k X.A)(hb:Binds X.K fd ps ds)(hd:Vals dvs ds)(hx:Passes CX X E)(ha:PA X (e::es) t)
  (hst:starEach (e::es) X.env=(false,eval e X.env)::starEach es X.env:=by rfl) (hpl:(backTo pos (starEach es X.env)).any (·.1)=false:=by rfl)
  (ht:eval (.Call (.Attribute o m apos) (e::es) [] pos) X.env=(do
   let ov <-eval o X.env
   standAt apos.atName
   let (f,first) <-holding [ov] (getMethod ov m pl)
   callWith pos f first (backTo pos (starEach (e::es) X.env)) (backToKw pos (keywordEach [] X.env))):=by rfl) :
  PE X (.Call (.Attribute o m apos) (e::es) [] pos) (BZ C m sp dvs E ta t):=by
 intro pins s GK H Q I h
 refine PySem.W.methodCall_KW (pl:=pl) (bg (he pins s GK H _ I h) fun u s1 ⟨x,H1,I1,rx,a,dx,fs,ex,ea,l,q⟩=>?_) ht
 subst ex
 obtain rfl:u=Value.ref a:=rx
 refine xy I1 ea c hm l ?_
 refine Jr (first:=[.ref a]) (h₀:=X.base) I.ok.mod.jX hm.kp (bg (ha pos pins s1 GK H1 _ I1 q) fun us s2 ⟨vs,H2,I2,r,q2⟩=>⟨I2.iK,?_⟩) hst hpl
 exact yK (us:=.ref a::us) (vs:=.ref a::vs) F hr hb hd hx I2 (.cons rfl r) q2
structure Mk (K:GP) (C f:Addr):Prop where
 makes:IV K C=true
 init:Hx K (.ref C) "__init__" = some (some (.ref f))
 fn:IE K (.ref f)=true
 kp:HF K (.ref C)=true
theorem As {pins:List (Addr×Obj)}{GK : St}{H:Hp}{s:Shared}{Q:VK}{us:List Value}{vs:List V}(M:Mk X.K C f)(F:bp X.prog X.w X.K X.mg X.base CX k f fd ps sp)(hr:dq (k+1) X.A)(hb:Binds X.K fd ps ds)(hd:Vals dvs ds)
  (hx:Passes CX X E) (I:Inv X pins GK H s) (r:Vals vs us)
  (h:∀x dx,H x=none->H dx=none->dx≠x->sp (.ref x::(vs++dvs)) (upd (upd H dx (.own x)) x (.ins C dx [])) (fun v H2=>v=.bC/\Q (.ref x) H2) E) :
  wpAny (model X.prog X.w) X.A (call (.ref C) us) (EP X pins GK Q) X.xe s:=by
 have hq:=h (s.heap.objs.size+1) s.heap.objs.size (I.aW.fresh (HP _)) (I.aW.fresh (GQ _)) (G0 (HG _))
 have I2:=Inv.made (C:=C) I
 have r2:Vals (V.ref (s.heap.objs.size+1)::(vs++dvs)) (Value.ref (s.heap.objs.size+1)::(us++ds)):=.cons rfl (r.append hd)
 have hl:(Value.ref (s.heap.objs.size+1)::us++ds).length=ps.length:=by
  have e:=r2.length
  rw [F.len _ _ _ _ hq] at e
  exact e.symm
 refine wpAny_call (Ar (f:=f) I.iK M.makes M.init (beq_iff_eq.mp M.fn) (JK (F.run _ X.stack _ _ ⟨Value.ref (s.heap.objs.size+1)::us,[]⟩ (Value.ref (s.heap.objs.size+1)::(us++ds)) _ _ E (hr.make C us [])
  (I2.DM.make C us []) (hb _ (Value.ref (s.heap.objs.size+1)::us) I2.iK hl) r2 hq) fun r s' hq'=>?_))
 cases r with
 | error e=>exact hx pins GK _ _ e s' I2 hq'
 | ok fl =>
  cases fl with
  | ret u =>
   obtain⟨v,H',I3,rv,ev,q3⟩:=I2.after hq'
   subst ev
   exact⟨rv,⟨V.ref (s.heap.objs.size+1),H',I3,rfl,q3⟩⟩
  | next=>exact False.elim hq'
  | brk=>exact False.elim hq'
  | cont=>exact False.elim hq'
theorem CH (M:Mk X.K C f)(F:bp X.prog X.w X.K X.mg X.base CX k f fd ps sp)(hr:dq (k+1) X.A)(hg:Gl X x)(hm:X.mg x=some (.ref C))(hb:Binds X.K fd ps ds)(hd:Vals dvs ds)(hx:Passes CX X E)
  (ha:PA X (e::es) t) (hdb:(x == ("__debug__" : Str))=false:=by decide) (he:starEach (e::es) X.env=(false,eval e X.env)::starEach es X.env:=by rfl) (hpl:(backTo pos (starEach es X.env)).any (·.1)=false:=by rfl) :
  PE X (.Call (.Name x p) (e::es) [] pos) (B0 C sp dvs E t):=by
 intro pins s GK H Q I h
 refine JU (qE I hg hm ?_ hdb)
 refine Jr (h₀:=X.base) I.ok.mod.jX M.kp (bg (ha pos pins s GK H _ I h) fun us s1 ⟨vs,H1,I1,r,q⟩=>⟨I1.iK,?_⟩) he hpl
 exact As M F hr hb hd hx I1 r q
end
section
variable {X:Cx}{CX:lZ}{k:Nat}{f C:Addr}{fd:FuncData}{ps ks:List Str}{sp:Sp}{E:XK}{x m:Str}{p pos apos kpos:Pos}{e o:Expr}{es:List Expr}{kws:List Keyword}{te ta:TE}{t tk:TA}{nm:Option Str}
variable {g:List Value->List Value->List Value}{gV:List V->List V->List V}
end
structure aS (N P:List Str) (sc:Scope):Prop where
 kind:sc.kind=.function
 co:sc.isCoroutine=false
 gen:sc.isGenerator=false
 nd:N.Nodup
 pre:N.take P.length=P
 par:∀x∈P,sc.names.lookup x=some .local\/sc.names.lookup x=some .cell
 DN:∀y∈sc.names,y.2≠.free
theorem rW {kindOf:Str->Option NameKind}{x:Str}:∀{binds:List (Str×Value)} {m:Str->Option Value},(∀v,(x,v)∉binds)->bindL kindOf binds m x=m x
 | [],_,_=>rfl
 | (n,v)::r,m,h=>by
  unfold bindL
  rw [rW fun w hw=>h w (G1 _ hw)]
  split
  ·have:x≠n:=by rintro rfl;exact h v GZ
   simp [this]
  ·rfl
theorem rX {kindOf:Str->Option NameKind}{x:Str}:∀{binds:List (Str×Value)} {m:Str->Option Value},(∀v,(x,v)∉binds)->bindC kindOf binds m x=m x
 | [],_,_=>rfl
 | (n,v)::r,m,h=>by
  unfold bindC
  rw [rX fun w hw=>h w (G1 _ hw)]
  split
  ·rfl
  ·have:x≠n:=by rintro rfl;exact h v GZ
   simp [this]
theorem rY {kindOf:Str->Option NameKind}{x:Str}{v:Value}:∀{P:List Str} {vs:List Value} {i:Nat} {m:Str->Option Value},P.Nodup->P[i]?=some x->vs[i]?=some v->kindOf x=some .local ->
  bindL kindOf (P.zip vs) m x=some v
 | [],_,_,_,_,h,_,_=>by simp at h
 | _::_,[],_,_,_,_,h,_=>by simp at h
 | p::P,w::vs,0,m,nd,h1,h2,hk=>by
  simp at h1 h2;subst h1;subst h2
  show bindL kindOf ((p,w)::P.zip vs) m p=_
  unfold bindL
  rw [rW fun v hv=>(HQ.mp nd).1 (IW hv).1,if_pos hk]
  simp
 | p::P,w::vs,i+1,m,nd,h1,h2,hk=>by
  show bindL kindOf ((p,w)::P.zip vs) m x=_
  unfold bindL
  exact rY (i:=i) (HQ.mp nd).2 (by simpa using h1) (by simpa using h2) hk
theorem rZ {kindOf:Str->Option NameKind}{x:Str}{v:Value}:∀{P:List Str} {vs:List Value} {i:Nat} {m:Str->Option Value},P.Nodup->P[i]?=some x->vs[i]?=some v->kindOf x≠some .local ->
  bindC kindOf (P.zip vs) m x=some v
 | [],_,_,_,_,h,_,_=>by simp at h
 | _::_,[],_,_,_,_,h,_=>by simp at h
 | p::P,w::vs,0,m,nd,h1,h2,hk=>by
  simp at h1 h2;subst h1;subst h2
  show bindC kindOf ((p,w)::P.zip vs) m p=_
  unfold bindC
  rw [rX fun v hv=>(HQ.mp nd).1 (IW hv).1,if_neg hk]
  simp
 | p::P,w::vs,i+1,m,nd,h1,h2,hk=>by
  show bindC kindOf ((p,w)::P.zip vs) m x=_
  unfold bindC
  exact rZ (i:=i) (HQ.mp nd).2 (by simpa using h1) (by simpa using h2) hk
def start (N:List Str)(vs:List V):St:=vs.map some++IX (N.length-vs.length) none
def oB (CX:lZ)(P:Program)(w:World)(K:GP)(mg:Str->Option Value)(base:Heap)(N:List Str)(qual:Str)(scope:Scope)(f:Addr)(cd:Value)(A:Around)(outer:List Env)(s:Shared)(H:Hp)(E:XK):Cx where
 prog:=P
 w:=w
 K:=K
 mg:=mg
 base:=base
 A:=A.deeper (envOfC qual scope s.heap.objs.size f cd)
 N:=N
 d5:=s
 km:=H
 env:=envOfC qual scope s.heap.objs.size f cd
 outer:=outer
 stack:=envOfC qual scope s.heap.objs.size f cd::outer
 ex:=[]
 calm:=true
 fn:=fun _=>true
 pn:=[]
 xe:=fun e s'=>wpAny (model P w) (A.deeper (envOfC qual scope s.heap.objs.size f cd)) (leaving (envOfC qual scope s.heap.objs.size f cd) e) (fun _ s''=>CX outer H s E e s'') (fun e' s''=>CX outer H s E e' s'') s'
theorem uj {sc:Scope}{n:Nat}{x:Str}(h:sc.names.lookup x=some .cell):∃c,(cellsFrom n sc.names []).lookup x=some c:=by
 have q:=PySem.W.cellsFrom_some sc.names n [] (.inl h)
 exact Option.isSome_iff_exists.mp q
theorem yL {CX:lZ}{P:Program}{w:World}{K:GP}{mg:Str->Option Value}{base:Heap}{N ps:List Str}{qual:Str}{scope:Scope}{f:Addr}{cd:Value}{A:Around}{outer:List Env}{s s1:Shared}{H:Hp}{E:XK}{us:List Value}{vs:List V}
  (S:aS N ps scope) (hd:A.handled=none) (e0:oA P w K mg base A outer s H) (hl:vs.length=ps.length) (r:Vals vs us)
  (x:InCallC s s.heap.objs.size (bindL (envOfC qual scope s.heap.objs.size f cd).kindOf (ps.zip us) fun _=>none) (cellsFrom (s.heap.objs.size+1) scope.names []) (bindC (envOfC qual scope s.heap.objs.size f cd).kindOf (ps.zip us) fun _=>none) s1) :
  Inv (oB CX P w K mg base N qual scope f cd A outer s H E) [] (start N vs) H s1:=by
 have hpl:ps.length<=N.length:=by have:=congrArg HI S.pre;rw [Hm] at this;omega
 obtain⟨h1,tk,rfl,hk⟩:=x.done
 have noA:∀b:Addr,b∉(oB CX P w K mg base N qual scope f cd A outer s H E).ex:=fun b z=>absurd (show b∈([]:List Addr) from z) (by simp)
 refine⟨⟨e0.mod,S.kind,rfl,rfl,GQ _,fun y z c h1 h2=>?_,fun y hy=>?_,fun y c _ h=>?_,fun _=>hd,Around.frames_deeper e0.frames,.inr ⟨rfl,rfl⟩,fun b z=>absurd z (noA b),e0.bs,e0.o6,fun b _ _=>noA b,fun b z=>absurd z (noA b),e0.iF,e0.tZ⟩,
  rfl,e0.bare,Un.kept hk,⟨_,x.toInCall.ns,fun i y v h1 h2 h3=>?_⟩,fun y c h=>⟨_,x.cell y c h⟩,e0.aW.fresh (GQ _),fun y c h=>?_,fun p hp=>absurd (show p∈([]:List (Addr×Obj)) from hp) (by simp),e0.aW.kept hk,?_⟩
 ·exact name_of_addr x.apart (PySem.mem_of_lookup h1) (PySem.mem_of_lookup h2)
 ·have hy:scope.names.lookup y=some .cell\/scope.names.lookup y=some .free:=hy
  rcases hy with hy | hy
  ·exact uj hy
  ·exact absurd rfl (S.DN _ (PySem.mem_of_lookup hy))
 ·exact Ht (x.above y c (PySem.mem_of_lookup h))
 ·have hi:i<vs.length:=by
   unfold start at h2
   by_cases hi:i<vs.length
   ·exact hi
   ·rw [IF (by simpa using hi)] at h2
    rw [List.getElem?_replicate] at h2
    split at h2 <;> cases h2
  have ha:vs[i]?=some v:=by
   unfold start at h2
   rw [HY (by simpa using hi),G8] at h2
   cases e:vs[i]? with
   | none=>rw [e] at h2;cases h2
   | some a=>rw [e] at h2;cases h2;rfl
  obtain⟨u,hu,rv⟩:=r.get ha
  have hp:ps[i]?=some y:=by
   rw [<-S.pre,List.getElem?_take_of_lt (by omega)];exact h1
  have ndP:ps.Nodup:=by rw [<-S.pre];exact S.nd.sublist (List.take_sublist _ _)
  refine⟨u,rv,?_⟩
  rcases S.par y (G9 hp) with k | k
  ·exact .inl ⟨k,rY ndP hp hu k⟩
  ·obtain⟨c,e⟩:=uj (n:=s.heap.objs.size+1) k
   refine .inr ⟨.inl k,c,e,?_⟩
   have q:=x.cell y c e
   rw [rZ ndP hp hu (by show scope.names.lookup y≠_;rw [k];decide)] at q
   exact q
 ·exact e0.aW.fresh (Ht (x.above y c (PySem.mem_of_lookup h)))
 ·unfold start
  show _=N.length
  rw [GW,GO,IY]
  omega
theorem Ca {CX:lZ}{P:Program}{w:World}{K:GP}{mg:Str->Option Value}{base:Heap}{k:Nat}{f:Addr}{name qual:Str}{params:Arguments}{body:List Stmt}{scope:Scope}{dV kV doc pm cdv ct oc:Value}{an od:Option Addr}
  {osl:Array (Option Value)} {N ps:List Str} {sp:Sp} (lk:K.lookup f=some ⟨oc,od,.func (Hu name qual params body scope dV kV doc pm an cdv ct),osl⟩) (hcd:Ih K cdv qual=true) (S:aS N ps scope)
  (len:∀vs H Q E,sp vs H Q E->vs.length=ps.length)
  (hbody:∀(A:Around) (outer:List Env) (s:Shared) (H:Hp) (vs:List V) (Q:VK) (E:XK),dq k (A.deeper (envOfC qual scope s.heap.objs.size f cdv))->sp vs H Q E ->
   ∃t,iY (oB CX P w K mg base N qual scope f cdv A outer s H E) body t/\t { nx:=fun _ H'=>Q .bC H',rt:=Q } (start N vs) H) :
  bp P w K mg base CX (k+1) f (Hu name qual params body scope dV kV doc pm an cdv ct) ps sp:=by
 refine⟨len,fun A outer s H args us vs Q E hr e0 hb r hsp=>?_⟩
 have hl:=len _ _ _ _ hsp
 have KX:K.In s.heap:=e0.mod.jX.keeps fun b o e=>(e0.bs b o e).1
 have lim:s.heap.NoLimit:=e0.mod.nolimit.keeps fun b o e=>(e0.bs b o e).1
 have hkind:∀y∈ps.zip us,scope.names.lookup y.1=some .local\/(scope.names.lookup y.1=some .cell/\((cellsFrom (s.heap.objs.size+1) scope.names []).lookup y.1).isSome=true):=fun ⟨n,v⟩ hy=>by
  rcases S.par n (IW hy).1 with q | q
  ·exact .inl q
  ·exact .inr ⟨q,PySem.W.cellsFrom_some _ _ _ (.inl q)⟩
 refine codeAny_call_function hr.depth (KX _ _ lk) rfl S.co S.gen rfl (PySem.W.codeRec_of KX hcd) (hb _ _ _ _ ?_)
 refine wpAny_newFunctionEnv_cells S.kind hkind fun env he s1 x=>?_
 subst he
 refine⟨lim.keeps x.toInCall.keep,codeAny_func ?_⟩
 obtain⟨t,ht,hq⟩:=hbody A outer s H vs Q E (hr.deeper _) hsp
 have I:Inv (oB CX P w K mg base N qual scope f cdv A outer s H E) [] (start N vs) H s1:=yL S hr.hd e0 hl r x
 refine Jz (ht [] s1 (start N vs) H _ I hq) (fun fl s' hs=>?_) fun e s' hs=>hs
 have fin:∀{σ':St} {H':Hp} {v:V} {u:Value},Inv (oB CX P w K mg base N qual scope f cdv A outer s H E) [] σ' H' s'->RelV v u->Q v H'->CE outer P w H s Q u s' :=
  fun {σ' H' v u} J rv q=>⟨v,H',J.os,J.bare,J.base,J.aW,rv,q⟩
 cases fl with
 | ret u =>
  obtain⟨v,σ',H',J,rv,q⟩:=hs
  exact fin J rv q
 | next =>
  obtain⟨σ',H',J,q⟩:=hs
  exact fin (v:=V.bC) (u:=Value.none) J rfl q
 | brk =>
  obtain⟨_,_,_,q⟩:=hs
  exact False.elim q
 | cont =>
  obtain⟨_,_,_,q⟩:=hs
  exact False.elim q
section
variable {X:Cx}{x:Str}{p pos:Pos}{e:Expr}{es:List Expr}{t:TA}{id T:String}{r:List V->Hp->VK->Prop}
def DO (r:List V->Hp->VK->Prop)(t:TA):TE:=fun GK H Q=>t GK H fun vs H1=>r vs H1 Q
theorem aQ (hc:er X (.builtin id) r) (hg:Gl X x) (hm:X.mg x=none) (hv:bootBuiltins x=some (.builtin id)) (ha:PA X (e::es) t) (hn:x ≠ "__name__" := by decide) (hdb:(x == ("__debug__" : Str))=false:=by decide)
  (he:starEach (e::es) X.env=(false,eval e X.env)::starEach es X.env:=by rfl) (hpl:(backTo pos (starEach es X.env)).any (·.1)=false:=by rfl):PE X (.Call (.Name x p) (e::es) [] pos) (DO r t):=by
 intro pins s GK H Q I h
 refine JU (jY I hg hm hv ?_ hn hdb)
 exact PyProof.Rows.callWith_builtin1 (bg (ha pos pins s GK H _ I h) fun us s1 ⟨vs,H1,I1,r1,q1⟩=>hc pins s1 GK H1 vs us Q I1 r1 q1) he hpl
theorem br (hc:er X (.type T) r) (hg:Gl X x) (hm:X.mg x=none) (hv:bootBuiltins x=some (.type T)) (ha:PA X (e::es) t) (hn:x ≠ "__name__" := by decide) (hdb:(x == ("__debug__" : Str))=false:=by decide)
  (he:starEach (e::es) X.env=(false,eval e X.env)::starEach es X.env:=by rfl) (hpl:(backTo pos (starEach es X.env)).any (·.1)=false:=by rfl):PE X (.Call (.Name x p) (e::es) [] pos) (DO r t):=by
 intro pins s GK H Q I h
 refine JU (jY I hg hm hv ?_ hn hdb)
 exact PyProof.Rows.callWith_type1 (bg (ha pos pins s GK H _ I h) fun us s1 ⟨vs,H1,I1,r1,q1⟩=>hc pins s1 GK H1 vs us Q I1 r1 q1) he hpl
theorem xF (hc:er X (.type T) r) (hg:Gl X x) (hm:X.mg x=none) (hv:bootBuiltins x=some (.type T)) (hn:x ≠ "__name__" := by decide) (hdb:(x == ("__debug__" : Str))=false:=by decide) :
  PE X (.Call (.Name x p) [] [] pos) (DO r xD):=by
 intro pins s GK H Q I h
 refine JU (jY I hg hm hv ?_ hn hdb)
 exact PyProof.Rows.callWith_type0 (hc pins s GK H [] [] Q I .nil h)
end
end L2
namespace HT
open PySem PyProof.Rows
section
open PySem.SeqAt
open PySem.AutoSeq1 (wpAny_loadPart')
open PySem.MeetsSeq PySem.MeetsSeq2 PySem.MeetsSeq3
end
section
variable {prog:Program}{w:World}{A:Around}{E:Value->Shared->Prop}{s:Shared}
theorem CI {t b:Addr}{vs ws:List Value}{Q:Value->Shared->Prop}(ht:IsTup s.heap t vs.toArray)(hb:IsTup s.heap b ws.toArray)(hv:vs≠[])
  (h1:ws=[]->Q (.ref t) s) (h2:ws≠[]->Q (.ref s.heap.objs.size) { s with heap:=s.heap.push { cls:=.type "tuple",data:=.seq (vs++ws).toArray } })
  (hsz:vs.length+ws.length<=sizeLine):wpAny (model prog w) A (binaryOp .Add (.ref t) (.ref b)) Q E s:=by
 obtain⟨⟨cls,dd,data,sl⟩,ho,hc,n,hd⟩:=id ht
 obtain⟨⟨cls2,dd2,data2,sl2⟩,ho2,hc2,n2,hd2⟩:=id hb
 simp only at hc hd hc2 hd2
 subst hc hd hc2 hd2
 have e:vs.toArray++ws.toArray=(vs++ws).toArray:=by simp
 by_cases hw:ws=[]
 ·exact concat_meets ⟨_,ho,rfl⟩ ⟨_,ho2,rfl⟩ noFill_tuple_add seq_tuple_add PySem.F.slot_tuple_add PySem.F.entry_tuple_add (PySem.F.args_tuple_add_2 _ _)
   (tuple_addW1 t b vs.toArray ws.toArray n n2 dd dd2 sl sl2 (by simpa using hv) (by simp [hw])) ⟨ho,ho2,h1 hw⟩
 ·refine concat_meets ⟨_,ho,rfl⟩ ⟨_,ho2,rfl⟩ noFill_tuple_add seq_tuple_add PySem.F.slot_tuple_add PySem.F.entry_tuple_add (PySem.F.args_tuple_add_2 _ _)
   (tuple_addW2 t b vs.toArray ws.toArray n n2 dd dd2 sl sl2 (by simpa using hv) (by simpa using hw) (by rw [Ha,Ha];exact hsz)) ⟨ho,ho2,?_⟩
  rw [e]
  exact h2 hw
def bP (n d:Nat):Option Int->Nat
 | none=>d
 | some v=>if v<0 then (v+(n:Int)).toNat else min v.toNat n
theorem oC (n d:Nat):bP n d none=d:=rfl
theorem j1 (n d k:Nat):bP n d (some (k:Int))=min k n:=by
 show (if (k:Int)<0 then ((k:Int)+(n:Int)).toNat else min (k:Int).toNat n)=min k n
 rw [if_neg (by omega),HZ]
theorem DP (n d:Nat)(hd:d<=n)(o:Option Int):bP n d o<=n:=by
 cases o with
 | none=>exact hd
 | some v =>
  show (if v<0 then (v+(n:Int)).toNat else min v.toNat n)<=n
  by_cases hv:v<0
  ·rw [if_pos hv];omega
  ·rw [if_neg hv];exact Nat.min_le_right _ _
theorem wy (v:Int)(n d:Nat):(if v<0 then max (v+(n:Int)) 0 else min v (n:Int))=((bP n d (some v):Nat):Int):=by
 show (if v<0 then max (v+(n:Int)) 0 else min v (n:Int))=(((if v<0 then (v+(n:Int)).toNat else min v.toNat n):Nat):Int)
 by_cases hv:v<0
 ·simp only [if_pos hv];omega
 ·simp only [if_neg hv];omega
theorem xG (lo hi:Option Int)(n:Nat):Builtin.Slice.sliceAdjust lo hi 1 (n:Int)=(((bP n 0 lo:Nat):Int),((bP n n hi:Nat):Int)):=by
 have h1:¬((1:Int)<0):=by omega
 unfold Builtin.Slice.sliceAdjust
 simp only [h1,if_false]
 refine Prod.ext ?_ ?_
 ·cases lo with
  | none=>rfl
  | some v=>exact wy v n 0
 ·cases hi with
  | none=>rfl
  | some v=>exact wy v n n
theorem xH (i j:Nat):Builtin.Slice.slicePlaces (i:Int) (j:Int) 1=j-i:=by
 unfold Builtin.Slice.slicePlaces
 have h1:(1:Int) > 0:=by omega
 simp only [h1,if_true,Int.ediv_one]
 split <;> omega
theorem pd {v:Value}{o:Option Int}{Q:Option Int->Shared->Prop}(p:IsPart v o)(h:Q o s):wpAny (model prog w) A (Builtin.Slice.slicePartIndex v) Q E s:=by
 cases p with
 | none=>exact slicePart_none h
 | int i t=>exact slicePart_int h
theorem i8 {sl:Addr}{vl vu:Value}{lo hi:Option Int}{n:Nat}{Q:Int×Int×Nat->Shared->Prop}(hs:s.heap.IsSliceOf sl vl vu .none)(pl:IsPart vl lo)(pu:IsPart vu hi)
  (h:Q (((bP n 0 lo:Nat):Int),1,bP n n hi-bP n 0 lo) s):wpAny (model prog w) A (Builtin.Slice.sliceApplied (.ref sl) (pure (n:Int))) Q E s:=by
 obtain⟨os,hos,hcs,hds⟩:=id hs
 unfold Builtin.Slice.sliceApplied Builtin.Slice.sliceFields
 refine Jx (Jx (JA hos hds (x:=vl) rfl (Jx (JA hos hds (x:=vu) rfl (Jx (JA hos hds (x:=.none) rfl (Jy ?_)))))))
 refine Jx (slicePart_none ?_)
 show wpAny _ _ (if ((1:Int) == 0)=true then _ else _) _ _ s
 rw [if_neg (by decide)]
 refine Jx (pd pl (Jx (pd pu (Jx (Jy ?_)))))
 show wpAny _ _ (match Builtin.Slice.sliceAdjust lo hi 1 (n:Int) with | (lo,hi)=>pure (lo,(1:Int),Builtin.Slice.slicePlaces lo hi 1)) _ _ s
 rw [xG lo hi n]
 show wpAny _ _ (pure (((bP n 0 lo:Nat):Int),(1:Int),Builtin.Slice.slicePlaces ((bP n 0 lo:Nat):Int) ((bP n n hi:Nat):Int) 1)) _ _ s
 rw [xH]
 exact Jy h
theorem Au (xs:Array Value)(i k:Nat):((Hs k).filterMap fun (m:Nat)=>xs[((i:Int)+(m:Int)*1).toNat]?).toArray=((xs.toList.drop i).take k).toArray:=by
 have e:(fun (m:Nat)=>xs[((i:Int)+(m:Int)*1).toNat]?)=fun m=>xs[i+m]?:=by
  funext m
  have:((i:Int)+(m:Int)*1).toNat=i+m:=by omega
  rw [this]
 rw [e]
 have:=pick_run xs i k
 rw [List.filterMap_map] at this
 have e2:((fun x=>xs[x]?) ∘ fun x=>i+x)=fun m=>xs[i+m]?:=rfl
 rw [e2] at this
 rw [this]
theorem nH {t sl:Addr}{items:Array Value}{vl vu:Value}{lo hi:Option Int}{Q:Value->Shared->Prop}(ht:IsTup s.heap t items)(hs:s.heap.IsSliceOf sl vl vu .none)(pl:IsPart vl lo)(pu:IsPart vu hi)
  (hw:¬(bP items.size 0 lo=0/\bP items.size items.size hi=items.size))
  (h:Q (.ref s.heap.objs.size) { s with heap:=s.heap.push { cls:=.type "tuple",data:=.seq ((items.toList.drop (bP items.size 0 lo)).take (bP items.size items.size hi-bP items.size 0 lo)).toArray } })
  (hsz:items.size<=sizeLine):wpAny (model prog w) A (getItem (.ref t) (.ref sl)) Q E s:=by
 have htake:sizeOk (.seq ((items.toList.drop (bP items.size 0 lo)).take (bP items.size items.size hi-bP items.size 0 lo)).toArray):=by
  show ((items.toList.drop (bP items.size 0 lo)).take (bP items.size items.size hi-bP items.size 0 lo)).toArray.size<=sizeLine
  rw [Ha,Hm,Io,Hw]
  omega
 have hj:bP items.size items.size hi<=items.size:=DP _ _ (GQ _) hi
 obtain⟨os,hos,hcs,hds⟩:=id hs
 have hTs:s.TypeIs (.ref sl) "slice" := ⟨os,hos,hcs⟩
 unfold getItem
 try with_reducible refine JB ?_
 first | refine Jx (Jy ?_) | skip
 refine Jx (J4 ht.typeIs (by decide) ?_)
 refine Jx (wpAny_callSpecial?_slot (name:=Str.ofString "__getitem__") ht.typeIs PyProof.Rows.slot_tuple_getitem
  (JC PyProof.Rows.slot_tuple_getitem ht.typeIs entry_tuple_getitem ?_ (args_tuple_getitem _ _)))
 show wpAny _ _ (Builtin.Tuple.tupleItemsOf (.ref t) >>= _) _ _ s
 refine Jx (tupleItemsOf_ ht ?_)
 refine Jx (JP hTs ?_)
 rw [if_pos (by decide)]
 refine Jx (i8 hs pl pu ?_)
 have hno:¬((((bP items.size 0 lo:Nat):Int) == 0&&(1:Int) == 1&&(bP items.size items.size hi-bP items.size 0 lo) == items.size)=true):=by
  intro q
  rw [Hb,Hb] at q
  have q1:((bP items.size 0 lo:Nat):Int)=0:=eq_of_beq q.1.1
  have q2:bP items.size items.size hi-bP items.size 0 lo=items.size:=eq_of_beq q.2
  exact hw ⟨by omega,by omega⟩
 show wpAny _ _ (if (((bP items.size 0 lo:Nat):Int) == 0&&(1:Int) == 1&&(bP items.size items.size hi-bP items.size 0 lo) == items.size)=true then _ else _) _ _ s
 rw [if_neg hno,Au]
 first
  | exact Jx (m:=Builtin.Tuple.tupleExact _) (JE (Jy ⟨_,rfl,Jy h⟩) htake)
  | exact Jx (m:=Builtin.Tuple.tupleExact _) (JE (Jx (Jy (Jy ⟨_,rfl,Jy h⟩))) htake)
  | exact Jx (Jx (m:=Builtin.Tuple.tupleExact _) (JE (Jy (Jy ⟨_,rfl,Jy h⟩)) htake))
  | exact Jx (Jx (m:=Builtin.Tuple.tupleExact _) (JE (Jy ⟨_,rfl,Jy h⟩) htake))
end
end HT
namespace L2
open PySem PySem.Spec PyProof.Rows
abbrev TO:=St->Hp->(Option Int->Hp->Prop)->Prop
def PO (X:Cx)(e:Option Expr)(t:TO):Prop :=
 ∀(pins:List (Addr×Obj)) (s:Shared) (GK : St) (H:Hp) (Q:Option Int->Hp->Prop),Inv X pins GK H s->t GK H Q ->
  wpAny (model X.prog X.w) X.A (evalPart e X.env) (fun u s'=>∃o H',Inv X pins GK H' s'/\IsPart u o/\Q o H') X.xe s
def CJ:TO:=fun _ H Q=>Q none H
def E5 (t:TE):TO:=fun GK H Q=>t GK H fun x H1=>∃i,x=.int i/\Q (some i) H1
section
variable {X:Cx}{e:Expr}{te:TE}{lo hi:Option Expr}{tl th:TO}{pos p2:Pos}
theorem iS:PO X none CJ:=by
 intro pins s GK H Q I h
 rw [evalPart_none]
 exact Jy ⟨none,H,I,.none,h⟩
theorem iT (h:PE X e te):PO X (some e) (E5 te):=by
 intro pins s GK H Q I hw
 rw [evalPart_some]
 refine bg (h pins s GK H _ I hw) fun u s1 ⟨x,H1,I1,r1,q1⟩=>?_
 obtain⟨i,rfl,q⟩:=q1
 obtain⟨t,rfl⟩:=r1
 exact⟨some i,H1,I1,.int i t,q⟩
def DQ (X:Cx)(r:V->Option Int->Option Int->Hp->VK->Prop):Prop :=
 ∀(pins:List (Addr×Obj)) (s:Shared) (GK : St) (H:Hp) (x:V) (v vl vu:Value) (lo hi:Option Int) (sl:Addr) (Q:VK),Inv X pins GK H s->RelV x v->s.heap.IsSliceOf sl vl vu .none->IsPart vl lo->IsPart vu hi->r x lo hi H Q ->
  ∃T id,typeLookup (.type T) "__getitem__" = pure (some (.builtin id))/\s.TypeIs v T/\wpAny (model X.prog X.w) X.A (getItem v (.ref sl)) (EP X pins GK Q) X.xe s
def Gs (r:V->Option Int->Option Int->Hp->VK->Prop)(te:TE)(tl th:TO):TE:=fun GK H Q=>te GK H fun x H1=>tl GK H1 fun l H2=>th GK H2 fun u H3=>r x l u H3 Q
theorem gZ {r:V->Option Int->Option Int->Hp->VK->Prop}(hr:DQ X r)(he:PE X e te)(hl:PO X lo tl)(hu:PO X hi th):PE X (.Subscript e (.Slice lo hi none p2) pos) (Gs r te tl th):=by
 intro pins s GK H Q I h
 refine Subscript_ (bg (he pins s GK H _ I h) fun v s1 ⟨x,H1,I1,r1,q1⟩=>?_)
 refine wpAny_Slice (bg (hl pins s1 GK H1 _ I1 q1) fun vl s2 ⟨l,H2,I2,pl,q2⟩=>bg (hu pins s2 GK H2 _ I2 q2) fun vu s3 ⟨u,H3,I3,pu,q3⟩=>?_)
 rw [evalPart_none]
 refine Jy ?_
 have I4:Inv X pins GK H3 { s3 with heap:=s3.heap.push { cls:=.type "slice",data:=.fields #[vl,vu,.none] } }:=I3.kept (t':=s3.toks) fun b ob q=>GV _ q
 obtain⟨T,id,hT,ht,hg⟩:=hr pins { s3 with heap:=s3.heap.push { cls:=.type "slice",data:=.fields #[vl,vu,.none] } } GK H3 x v vl vu l u s3.heap.objs.size Q I4 r1 (Heap.IsSliceOf.new ..) pl pu q3
 show wpAny (model X.prog X.w) X.A (subscriptTail e (.Slice lo hi none p2) v (.ref s3.heap.objs.size)) (EP X pins GK Q) X.xe { s3 with heap:=s3.heap.push { cls:=.type "slice",data:=.fields #[vl,vu,.none] } }
 exact tail_any (ops:=[.ref s3.heap.objs.size,v]) ht hT hg (by with_unfolding_all rfl)
def cP (xs:List V)(lo hi:Option Int):List V:=(xs.drop (HT.bP xs.length 0 lo)).take (HT.bP xs.length xs.length hi-HT.bP xs.length 0 lo)
theorem vB (xs:List V)(lo hi:Option Int):(cP xs lo hi).length<=xs.length:=by
 unfold cP
 rw [Hm,Io]
 omega
def FW (K:GP):V->Option Int->Option Int->Hp->VK->Prop:=fun x lo hi H Q=>∃a xs,x=.ref a/\av K H a xs /\
 ¬(HT.bP xs.length 0 lo=0/\HT.bP xs.length xs.length hi=xs.length)/\∀p,H p=none->Q (.ref p) (upd H p (.tup (cP xs lo hi)))
theorem DR:DQ X (FW X.K):=by
 intro pins s GK H x v vl vu lo hi sl Q I rx hs pl pu h
 obtain⟨a,xs,rfl,hx,hw,q⟩:=h
 cases rx
 obtain⟨its,r,ht,hz⟩:=I.tuple hx
 have hlen:its.toArray.size=xs.length:=by rw [Ha];exact r.length.symm
 refine⟨"tuple",_,PyProof.Rows.slot_tuple_getitem.lookup,ht.typeIs,?_⟩
 refine HT.nH ht hs pl pu (by rw [hlen];exact hw) ?_ (by rw [hlen];exact hz)
 rw [hlen]
 refine⟨.ref s.heap.objs.size,_,I.laid (t':=s.toks) (o:=.tup (cP xs lo hi)) (fun b ob q=>GV _ q) (GQ _) ?_,rfl,q _ (I.aW.fresh (GQ _))⟩
 exact⟨GY (vB xs lo hi) hz,_,(r.drop (HT.bP xs.length 0 lo)).take (HT.bP xs.length xs.length hi-HT.bP xs.length 0 lo),⟨_,GX _ rfl,rfl,_,rfl,rfl⟩⟩
theorem Vals.qG {xs:List V}{us:List Value}(r:Vals xs us):us=[]↔xs=[]:=by
 cases r with
 | nil=>simp
 | cons _ _=>simp
end
def me (n:Nat)(i:Int):Option Nat:=if 0<=i then (if i<n then some i.toNat else none) else if -(n:Int)<=i then some (i+n).toNat else none
def eV {α : Type}(xs:List α)(i:Int):Option α:=(me xs.length i).bind fun j=>xs[j]?
theorem qH {n:Nat}{i:Int}{j:Nat}(h:me n i=some j):seqIndex? i n=some j/\j<n/\-(n:Int)<=i/\i<n:=by
 unfold me at h
 by_cases h0:0<=i
 ·rw [if_pos h0] at h
  by_cases h1:i<n
  ·rw [if_pos h1] at h
   have e:i.toNat=j:=G5.inj h
   exact⟨by rw [seqIndex_of h0 h1,e],by omega,by omega,h1⟩
  ·rw [if_neg h1] at h;cases h
 ·rw [if_neg h0] at h
  by_cases h1:-(n:Int)<=i
  ·rw [if_pos h1] at h
   have e:(i+n).toNat=j:=G5.inj h
   exact⟨by rw [seqIndex_neg (by omega) h1,e],by omega,h1,by omega⟩
  ·rw [if_neg h1] at h;cases h
theorem qI {α : Type}{xs:List α}{i:Int}{v:α}(h:eV xs i=some v):∃j,seqIndex? i xs.length=some j/\xs[j]?=some v/\j<xs.length/\-(xs.length:Int)<=i/\i<xs.length:=by
 unfold eV at h
 cases e:me xs.length i with
 | none=>rw [e] at h;cases h
 | some j =>
  rw [e] at h
  obtain⟨h1,h2,h3,h4⟩:=qH e
  exact⟨j,h1,h,h2,h3,h4⟩
theorem bA {α : Type}{xs:List α}{j:Nat}{v:α}(h:xs[j]?=some v):eV xs (j:Int)=some v:=by
 have hj:j<xs.length:=(G7.mp h).1
 have e:me xs.length (j:Int)=some j:=by
  unfold me
  rw [if_pos (by omega),if_pos (by omega)];simp
 unfold eV;rw [e];exact h
def CK (b:Expr):Prop:=∀o i,subscripted b false o i=operate [o,i] (getItem o i)
def wz (X:Cx)(r:R2):Prop :=
 ∀(value slice:Expr) (pins:List (Addr×Obj)) (s:Shared) (GK : St) (H:Hp) (x y:V) (v u:Value) (Q:VK),Inv X pins GK H s->RelV x v->RelV y u->r x y H Q ->
  subscripted slice false v u=operate [v,u] (getItem v u)->wpAny (model X.prog X.w) X.A (subscriptTail value slice v u) (EP X pins GK Q) X.xe s
def DS (X:Cx)(id:String)(r:V->List V->Hp->VK->Prop):Prop :=
 ∀(pins:List (Addr×Obj)) (s:Shared) (GK : St) (H:Hp) (x:V) (xs:List V) (v:Value) (us:List Value) (Q:VK),Inv X pins GK H s->RelV x v->Vals xs us->r x xs H Q ->
  wpAny (model X.prog X.w) X.A (call (.builtin id) (v::us)) (EP X pins GK Q) X.xe s
section
variable {X:Cx}{a b:Expr}{ta tb:TE}{pos:Pos}
theorem aI {r:R2}(hr:wz X r)(ha:PE X a ta)(hb:PE X b tb)(hs:CK b):PE X (.Subscript a b pos) (BY r ta tb):=by
 intro pins s GK H Q I h
 exact Subscript_ (Ak ha hb I h fun v u s2 x y H2 I2 rx ry q=>hr a b pins s2 GK H2 x y v u Q I2 rx ry q (hs _ _))
def FX (K:GP):R2:=fun x y H Q=>∃p xs i v,x=.ref p/\y=.int i/\aU K H p xs/\eV xs i=some v/\Q v H
def Av (K:GP):R2:=fun x y H Q=>∃p xs i v,x=.ref p/\y=.int i/\av K H p xs/\eV xs i=some v/\Q v H
def FY:R2:=fun x y H Q=>∃z i c,x=.str z/\y=.int i/\z.length<=sizeLine/\eV z.cps.toList i=some c/\Q (.str ⟨#[c]⟩) H
theorem bY:wz X (FX X.K):=by
 intro value slice pins s GK H x y v u Q I rx ry h hs
 obtain⟨p,xs,i,z,rfl,rfl,hq,he,q⟩:=h
 cases rx
 obtain⟨t,rfl⟩:=ry
 obtain⟨its,r,pl,hz⟩:=I.list hq
 obtain⟨j,h1,h2,h3,h4,h5⟩:=qI he
 obtain⟨w,ew,rw'⟩:=r.get h2
 have hl:=r.length
 have hn:=i7
 have fin:EP X pins GK Q w s:=⟨z,H,I,rw',q⟩
 by_cases h0:0<=i
 ·have hj:i.toNat=j:=by
   rw [seqIndex_of h0 h5] at h1
   exact G5.inj h1
  exact item_listR pl.isList h0 (by omega) (by rw [hj];simpa using ew) fin hs
 ·have hj:(i+(its.toArray.size:Int)).toNat=j:=by
   rw [seqIndex_neg (by omega) h4] at h1
   rw [Ha,<-hl]
   exact G5.inj h1
  exact subscriptTail_builtinR (x:=w) pl.isList.typeIs slot_list_getitem.lookup
   (wpAny_getItem_list_neg (Q:=fun r s'=>r=w/\EP X pins GK Q r s') pl.isList (by omega) (by rw [Ha] <;> omega) (by omega) (by rw [hj];simpa using ew) ⟨rfl,fin⟩) hs
theorem aN:wz X (Av X.K):=by
 intro value slice pins s GK H x y v u Q I rx ry h hs
 obtain⟨p,xs,i,z,rfl,rfl,hq,he,q⟩:=h
 cases rx
 obtain⟨t,rfl⟩:=ry
 obtain⟨its,r,pl,hz⟩:=I.tuple hq
 obtain⟨j,h1,h2,h3,h4,h5⟩:=qI he
 obtain⟨w,ew,rw'⟩:=r.get h2
 have hl:=r.length
 have hn:=i7
 have fin:EP X pins GK Q w s:=⟨z,H,I,rw',q⟩
 exact subscriptTail_builtinR (x:=w) pl.typeIs slot_tuple_getitem.lookup
  (getItem_tuple (j:=j) (Q:=fun r s'=>r=w/\EP X pins GK Q r s') pl (by omega) (by omega) (by rw [Ha,<-hl];exact h1) (by simpa using ew) ⟨rfl,fin⟩) hs
theorem yM:wz X FY:=by
  intro value slice pins s GK H x y v u Q I rx ry h hs
  obtain⟨z,i,c,rfl,rfl,hz,he,q⟩:=h
  obtain⟨t,rfl⟩:=rx
  obtain⟨t',rfl⟩:=ry
  obtain⟨j,h1,h2,h3,h4,h5⟩:=qI he
  have hl:z.cps.toList.length=z.length:=by simp [Str.length]
  rw [hl] at h1 h4 h5
  have hn:=i7
  exact tail_any (typeIs_str s z t) slot_str_getitem.lookup (getItem_str (c:=c) (by
    have e1:decide (i < -(2 ^ 63:Int))=false:=decide_eq_false (by omega)
    have e2:decide (i >= 2 ^ 63)=false:=decide_eq_false (by omega)
    rw [e1,e2,Bool.or_false]) (by rw [h1];simpa using h2) ⟨.str ⟨#[c]⟩,H,I.tok _,⟨_,rfl⟩,q⟩) hs
theorem xI (its:List Value)(n j:Nat)(u:Value):Obj.mapSeq (·.setIfInBounds j u) { cls:=.type "list",data:=.seq its.toArray n } = { cls:=.type "list",data:=.seq (its.set j u).toArray n }:=by
 simp [Obj.mapSeq]
theorem Inv.lst {pins:List (Addr×Obj)}{GK : St}{H:Hp}{s:Shared}{p:Addr}{xs:List V}(I:Inv X pins GK H s)(h:H p=some (.lst xs)) :
  ∃(its:List Value) (n:Nat),Vals xs its/\s.heap.get? p=some { cls:=.type "list",data:=.seq its.toArray n }/\xs.length<=sizeLine:=by
 obtain⟨z,its,n,r,e⟩:=I.aW p _ h
 exact⟨its,n,r,e,z⟩
theorem Inv.DT {pins:List (Addr×Obj)}{GK : St}{H:Hp}{s:Shared}{p:Addr}{xs ys:List V}{its its':List Value}{n n':Nat}{f:Obj->Obj}(I:Inv X pins GK H s)(h:H p=some (.lst xs))
  (ho:s.heap.get? p=some { cls:=.type "list",data:=.seq its.toArray n }) (hf:f { cls:=.type "list",data:=.seq its.toArray n } = { cls:=.type "list",data:=.seq its'.toArray n' }) (r:Vals ys its') (hz:ys.length<=sizeLine) (t:Nat) :
  Inv X pins GK (upd H p (.lst ys)) { s with heap:=s.heap.update p f,toks:=t }:=by
 have e:(s.heap.update p f).get? p=some { cls:=.type "list",data:=.seq its'.toArray n' }:=by
  rw [HJ f ho (by rw [hf] <;> rfl),hf]
 refine I.write (x:=p) (e:=p) (by rw [h];trivial) (.inl rfl) (fun b u hb q=>(HR _ _ (Ne.symm hb)).trans q) ⟨_,e⟩ ?_
 exact⟨hz,its',n',r,e⟩
def E6:V->V->V->Hp->(Hp->Prop)->Prop:=fun o i v H Q=>∃p xs k j,o=.ref p/\i=.int k/\H p=some (.lst xs)/\me xs.length k=some j/\Q (upd H p (.lst (xs.set j v)))
theorem set_list:Ah X E6:=by
 intro pins s GK H o i v ov iv u Q I ro ri rv h
 obtain⟨p,xs,k,j,rfl,rfl,hp,hj,q⟩:=h
 cases ro
 obtain⟨t,rfl⟩:=ri
 obtain⟨its,n,r,ho,hz⟩:=I.lst hp
 obtain⟨h1,h2,h3,h4⟩:=qH hj
 have hl:=r.length
 have hn:=i7
 have I':Inv X pins GK (upd H p (.lst (xs.set j v))) { s with heap:=s.heap.update p (Obj.mapSeq (·.setIfInBounds j u)) } :=
  I.DT hp ho (xI its n j u) (r.set rv j) (by rw [Ia];exact hz) s.toks
 by_cases h0:0<=k
 ·have hk:k.toNat=j:=by
   rw [seqIndex_of h0 h4] at h1
   exact G5.inj h1
  exact PySem.W.ki_setAt ho h0 (by omega) (by rw [Ha,<-hl];exact h4) (by rw [hk];exact⟨_,I',q⟩)
 ·have hk:(k+(its.toArray.size:Int)).toNat=j:=by
   rw [seqIndex_neg (by omega) h3] at h1
   rw [Ha,<-hl]
   exact G5.inj h1
  exact PySem.W.ki_setBack ho (by omega) (by rw [Ha,<-hl];exact h3) (by omega) (by rw [hk];exact⟨_,I',q⟩)
def il:V->Bool
 | .bC=>true
 | .bl _=>true
 | .int _=>true
 | .str _=>true
 | _=>false
def r9:V->V->Bool
 | .bC,.bC=>true
 | .bl a,.bl b=>a == b
 | .bl a,.int b=>(if a then 1 else 0) == b
 | .int a,.bl b=>a == (if b then 1 else 0)
 | .int a,.int b=>a == b
 | .str a,.str b=>a == b
 | _,_=>false
theorem DU {A:Around}{s:Shared}{y x:V}{u v:Value}(ry:RelV y u)(rx:RelV x v)(fy:il y=true)(fx:il x=true):SeqAt.EqAt A s u v (r9 y x):=by
 cases y with
 | bC =>
  cases ry
  cases x with
  | bC=>cases rx;exact SeqAt.EqAt.same _
  | bl b=>cases rx;exact SeqAt.EqAt.none_bool b
  | int b=>obtain⟨t,rfl⟩:=rx;exact SeqAt.EqAt.none_int b t
  | str b=>obtain⟨t,rfl⟩:=rx;exact SeqAt.EqAt.none_str b t
  | _=>exact absurd (show false=true from fx) He
 | bl a =>
  cases ry
  cases x with
  | bC=>cases rx;exact SeqAt.EqAt.bool_none a
  | bl b=>cases rx;exact SeqAt.EqAt.bool_bool a b
  | int b=>obtain⟨t,rfl⟩:=rx;exact SeqAt.EqAt.bool_int a b t
  | str b=>obtain⟨t,rfl⟩:=rx;exact SeqAt.EqAt.bool_str a b t
  | _=>exact absurd (show false=true from fx) He
 | int a =>
  obtain⟨t',rfl⟩:=ry
  cases x with
  | bC=>cases rx;exact SeqAt.EqAt.int_none a t'
  | bl b=>cases rx;exact SeqAt.EqAt.int_bool a t' b
  | int b=>obtain⟨t,rfl⟩:=rx;exact SeqAt.EqAt.int_int a t' b t
  | str b=>obtain⟨t,rfl⟩:=rx;exact SeqAt.EqAt.int_str a t' b t
  | _=>exact absurd (show false=true from fx) He
 | str a =>
  obtain⟨t',rfl⟩:=ry
  cases x with
  | bC=>cases rx;exact SeqAt.EqAt.str_none a t'
  | bl b=>cases rx;exact SeqAt.EqAt.str_bool a t' b
  | int b=>obtain⟨t,rfl⟩:=rx;exact SeqAt.EqAt.str_int a t' b t
  | str b=>obtain⟨t,rfl⟩:=rx;exact SeqAt.EqAt.str_str a t' b t
  | _=>exact absurd (show false=true from fx) He
 | _=>exact absurd (show false=true from fy) He
def i9 (x:V)(u:Value):Bool:=match u with
 | .none=>r9 .bC x
 | .bool b=>r9 (.bl b) x
 | .int i _=>r9 (.int i) x
 | .str z _=>r9 (.str z) x
 | _=>false
theorem yN {x y:V}{u:Value}(r:RelV y u)(f:il y=true):i9 x u=r9 y x:=by
 cases y with
 | bC=>cases r;rfl
 | bl b=>cases r;rfl
 | int i=>obtain⟨t,rfl⟩:=r;rfl
 | str z=>obtain⟨t,rfl⟩:=r;rfl
 | _=>exact absurd (show false=true from f) He
theorem j2 {x:V}:∀{xs:List V} {us:List Value},Vals xs us->xs.all il=true->us.any (i9 x)=xs.any fun y=>r9 y x
 | _,_,.nil,_=>rfl
 | y::xs,u::us,.cons r t,f=>by
  rw [List.all_cons,Hb] at f
  rw [IG,IG,yN r f.1,j2 t f.2]
theorem ja {A:Around}{s:Shared}{x:V}{v:Value}(rx:RelV x v)(fx:il x=true):∀{xs:List V} {us:List Value},Vals xs us->xs.all il=true->∀u∈us,SeqAt.EqAt A s u v (i9 x u)
 | _,_,.nil,_=>fun u hu=>by cases hu
 | y::xs,u::us,.cons r t,f=>fun u' hu=>by
  rw [List.all_cons,Hb] at f
  rcases GS.mp hu with rfl | hu
  ·rw [yN r f.1];exact DU r rx f.1 fx
  ·exact ja rx fx t f.2 u' hu
def sd (x:V)(xs:List V):Bool:=xs.any fun y=>r9 y x
def Fp (K:GP)(neg:Bool):R2:=fun x y H Q=>∃p xs,y=.ref p/\(aU K H p xs\/av K H p xs)/\il x=true/\xs.all il=true/\Q (.bl (if neg then !sd x xs else sd x xs)) H
theorem se:dX X (compareOp .In) (Fp X.K false):=by
 intro pins s GK H x y v u Q I rx ry h
 obtain⟨p,xs,rfl,hq,fx,fs,q⟩:=h
 cases ry
 rcases hq with hq | hq
 ·obtain⟨its,r,pl,hz⟩:=I.list hq
  refine SeqAt.in_listAt (i9 x) pl.isList (fun w hw=>ja rx fx r fs w (by simpa using hw)) ⟨.bl _,H,I,rfl,?_⟩
  rw [show its.toArray.any (i9 x)=its.any (i9 x) by simp,j2 r fs]
  exact q
 ·obtain⟨its,r,pl,hz⟩:=I.tuple hq
  refine SeqAt.in_tupleAt (i9 x) pl (fun w hw=>ja rx fx r fs w (by simpa using hw)) ⟨.bl _,H,I,rfl,?_⟩
  rw [show its.toArray.any (i9 x)=its.any (i9 x) by simp,j2 r fs]
  exact q
theorem uk:dX X (compareOp .NotIn) (Fp X.K true):=by
 intro pins s GK H x y v u Q I rx ry h
 obtain⟨p,xs,rfl,hq,fx,fs,q⟩:=h
 cases ry
 rcases hq with hq | hq
 ·obtain⟨its,r,pl,hz⟩:=I.list hq
  refine SeqAt.notIn_listAt (i9 x) pl.isList (fun w hw=>ja rx fx r fs w (by simpa using hw)) ⟨.bl _,H,I,rfl,?_⟩
  rw [show its.toArray.any (i9 x)=its.any (i9 x) by simp,j2 r fs]
  exact q
 ·obtain⟨its,r,pl,hz⟩:=I.tuple hq
  refine SeqAt.notIn_tupleAt (i9 x) pl (fun w hw=>ja rx fx r fs w (by simpa using hw)) ⟨.bl _,H,I,rfl,?_⟩
  rw [show its.toArray.any (i9 x)=its.any (i9 x) by simp,j2 r fs]
  exact q
theorem aO:er X (.builtin "len") (fun xs H Q=>∃p ys,xs=[.ref p]/\(aU X.K H p ys\/av X.K H p ys)/\Q (.int ys.length) H):=by
 intro pins s GK H xs us Q I r h
 obtain⟨p,ys,rfl,hq,q⟩:=h
 obtain⟨u,rfl,rx⟩:=vals1 r
 cases rx
 have hn:=i7
 rcases hq with hq | hq
 ·obtain⟨its,r',pl,hz⟩:=I.list hq
  have hlen:=r'.length
  exact Calls.call_len_list pl.isList (by simp only [Ha] <;> omega) ⟨.int ys.length,H,I.tok _,⟨s.toks+1,by rw [Ha,hlen]⟩,q⟩
 ·obtain⟨its,r',pl,hz⟩:=I.tuple hq
  have hlen:=r'.length
  exact len_tuple pl (by simp only [Ha] <;> omega) ⟨.int ys.length,H,I.tok _,⟨s.toks+1,by rw [Ha,hlen]⟩,q⟩
theorem jb:er X (.type "list") (fun xs H Q=>∃p ys,xs=[.ref p]/\(aU X.K H p ys\/av X.K H p ys)/\∀l,H l=none->Q (.ref l) (upd H l (.lst ys))):=by
 intro pins s GK H xs us Q I r h
 obtain⟨p,ys,rfl,hq,q⟩:=h
 obtain⟨u,rfl,rx⟩:=vals1 r
 cases rx
 have fin:∀(its:List Value),Vals ys its->ys.length<=sizeLine->∀(h':Heap) (c':Nat),(∀b o',s.heap.get? b=some o'->h'.get? b=some o') ->
   h'.get? s.heap.objs.size=some { cls:=.type "list",dict:=none,data:=.seq its.toArray c',slots:=#[] }->EP X pins GK Q (.ref s.heap.objs.size) { s with heap:=h' }:=fun its r' hz h' c' kp e =>
  ⟨.ref s.heap.objs.size,_,I.laid (t':=s.toks) kp (GQ _) (show cy X.prog X.w _ h' _ (.lst ys) from ⟨hz,its,c',r',e⟩),rfl,q _ (I.aW.fresh (GQ _))⟩
 rcases hq with hq | hq
 ·obtain⟨its,r',pl,hz⟩:=I.list hq
  have hlen:=r'.length
  obtain⟨o,ho,hc,n,hd⟩:=pl.isList
  exact call_list_seq p (.inl rfl) ho hc hd (fun h' c' kp e=>fin its r' hz h' c' kp e) (by simp only [Ha] <;> omega)
 ·obtain⟨its,r',pl,hz⟩:=I.tuple hq
  have hlen:=r'.length
  obtain⟨o,ho,hc,n,hd⟩:=pl
  exact call_list_seq p (.inr rfl) ho hc hd (fun h' c' kp e=>fin its r' hz h' c' kp e) (by simp only [Ha] <;> omega)
theorem bF:er X (.type "tuple") (fun xs H Q=>∃p ys,xs=[.ref p]/\((aU X.K H p ys/\∀l,H l=none->Q (.ref l) (upd H l (.tup ys)))\/(av X.K H p ys/\Q (.ref p) H))):=by
 intro pins s GK H xs us Q I r h
 obtain⟨p,ys,rfl,h⟩:=h
 obtain⟨u,rfl,rx⟩:=vals1 r
 cases rx
 rcases h with ⟨hq,q⟩ | ⟨hq,q⟩
 ·obtain⟨its,r',pl,hz⟩:=I.list hq
  have hlen:=r'.length
  refine call_tuple_list pl.isList (fun h' kp=>?_) (by simp only [Ha] <;> omega)
  have I1:Inv X pins GK H { s with heap:=h' }:=I.kept (t':=s.toks) kp
  have I2:Inv X pins GK (upd H h'.objs.size (.tup ys)) { s with heap:=h'.push { cls:=.type "tuple",data:=.seq its.toArray } } :=
   I1.laid (t':=s.toks) (fun b o e=>GV _ e) (GQ _) (show cy X.prog X.w _ _ _ (.tup ys) from ⟨hz,its,r',⟨_,GX _ rfl,rfl,_,rfl,rfl⟩⟩)
  exact⟨.ref h'.objs.size,_,I2,rfl,q _ (I1.aW.fresh (GQ _))⟩
 ·obtain⟨its,r',pl,hz⟩:=I.tuple hq
  exact call_tuple_same pl ⟨.ref p,H,I,rfl,q⟩
def DV (K:GP)(T:String)(x:V)(H:Hp):Prop:=match x with
 | .str _=>T = "str"
 | .int _=>T = "int"
 | .ref p=>(T = "list" /\ ∃xs,aU K H p xs)\/(T = "tuple" /\ ∃o,K.lookup p=some o/\o.cls=.type "tuple" /\ o.dict=none) \/
   (T = "dict" /\ ((∃kvs,H p=some (.dK kvs))\/∃kvs,H p=some (.dT kvs)))\/(T = "set" /\ ∃S n,H p=some (.set S n))
 | _=>False
theorem yO {pins:List (Addr×Obj)}{GK : St}{H:Hp}{s:Shared}{T:String}{x:V}{v:Value}(I:Inv X pins GK H s)(r:RelV x v)(ty:DV X.K T x H) :
  s.TypeIs v T/\∀a,v=.ref a->∃ob,s.heap.get? a=some ob/\ob.dict=none:=by
 cases x with
 | str z =>
  obtain⟨t,rfl⟩:=r
  cases (show T = "str" from ty)
  exact⟨typeIs_str s z t,fun _ e=>nomatch e⟩
 | int i =>
  obtain⟨t,rfl⟩:=r
  cases (show T = "int" from ty)
  exact⟨typeIs_int s i t,fun _ e=>nomatch e⟩
 | ref p =>
  cases r
  rcases ty with ⟨rfl,xs,hq⟩ | ⟨rfl,o,hk,hc,hd⟩ | ⟨rfl,hk⟩ | ⟨rfl,S,n,hk⟩
  ·obtain⟨its,_,pl,_⟩:=I.list hq
   refine⟨pl.isList.typeIs,fun a e=>?_⟩
   cases e
   obtain⟨o,n,e,c,hd,_⟩:=pl
   exact⟨o,e,hd⟩
  ·refine⟨⟨o,I.iK p o hk,hc⟩,fun a e=>?_⟩
   cases e
   exact⟨o,I.iK _ o hk,hd⟩
  ·have z:∃o,s.heap.get? p=some o/\o.ExactDict:=by
    rcases hk with ⟨kvs,hk⟩ | ⟨kvs,hk⟩
    ·obtain⟨_,_,_,_,o,_,_,e,ex,_⟩:=I.aW p _ hk
     exact⟨o,e,ex⟩
    ·obtain⟨_,_,_,_,o,_,_,e,ex,_⟩:=I.aW p _ hk
     exact⟨o,e,ex⟩
   obtain⟨o,e,ex⟩:=z
   refine⟨⟨o,e,ex.1⟩,fun a e2=>?_⟩
   cases e2
   exact⟨o,e,ex.2.1⟩
  ·obtain⟨o,_,_,_,e,ex,_⟩:=I.aW p _ hk
   refine⟨⟨o,e,ex.1⟩,fun a e2=>?_⟩
   cases e2
   exact⟨o,e,ex.2.1⟩
 | _=>exact False.elim ty
def FZ (K:GP)(T:String)(r:V->List V->Hp->VK->Prop)(to:TE):TE:=fun GK H Q=>to GK H fun x H1=>DV K T x H1/\r x [] H1 Q
def Gu (K:GP)(T:String)(r:V->List V->Hp->VK->Prop)(to:TE)(t:TA):TE:=fun GK H Q=>to GK H fun x H1=>DV K T x H1/\t GK H1 fun xs H2=>r x xs H2 Q
variable {o e:Expr}{es:List Expr}{to:TE}{t:TA}{name:Str}{apos cpos:Pos}{T id:String}{r:V->List V->Hp->VK->Prop}
theorem DX (pa:PlainAttrs T) (slot:Slot T name id) (hty:typeOf (.builtin id)=pure (.type "method_descriptor")) (hm:DS X id r) (ho:PE X o to)
  (hbase:attributeBase o name X.env (eval o X.env)=eval o X.env:=by rfl) (hline:(apos.endLine == cpos.line)=true:=by rfl):PE X (.Call (.Attribute o name apos) [] [] cpos) (FZ X.K T r to):=by
 intro pins s GK H Q I h
 refine wpAny_Call_method0_late hbase hline (bg (ho pins s GK H _ I h) fun v s1 ⟨x,H1,I1,r1,ty,q1⟩=>?_)
 obtain⟨h1,h2⟩:=yO I1 r1 ty
 exact⟨T,id,pa,slot,hty,h1,h2,Calls.callWith_builtin rfl (PySem.evalArgs_none (hm pins s1 GK H1 x [] v [] Q I1 r1 .nil q1))⟩
theorem fU (pa:PlainAttrs T) (slot:Slot T name id) (hty:typeOf (.builtin id)=pure (.type "method_descriptor")) (hm:DS X id r) (ho:PE X o to) (ha:PA X (e::es) t)
  (hbase:attributeBase o name X.env (eval o X.env)=eval o X.env:=by rfl)
  (hfew:((backTo cpos (starEach (e::es) X.env)).all (fun x=>!x.1)&&(backToKw cpos (keywordEach [] X.env)).all (fun x=>x.1.isSome)
   && decide ((e::es).length+([]:List Keyword).length+(if ([]:List Keyword).isEmpty then 0 else 1)<30))=true:=by rfl)
  (hline:(apos.endLine == cpos.line)=true:=by rfl) (hs:starEach (e::es) X.env=(false,eval e X.env)::starEach es X.env:=by rfl) (hplain:(backTo cpos (starEach es X.env)).any (·.1)=false:=by rfl) :
  PE X (.Call (.Attribute o name apos) (e::es) [] cpos) (Gu X.K T r to t):=by
 intro pins s GK H Q I h
 refine wpAny_Call_method_late hbase hfew hline rfl (bg (ho pins s GK H _ I h) fun v s1 ⟨x,H1,I1,r1,ty,q1⟩=>?_)
 obtain⟨h1,h2⟩:=yO I1 r1 ty
 refine⟨T,id,pa,slot,hty,h1,h2,?_⟩
 have hA:=ha cpos pins s1 GK H1 _ I1 q1
 rw [hs] at hA ⊢
 refine Calls.callWith_builtin (by show (false||(backTo cpos (starEach es X.env)).any (·.1))=false;rw [hplain] <;> rfl) (Calls.evalArgs_plain ?_)
 exact bg hA fun us s2 ⟨vs,H2,I2,r2,q2⟩=>hm pins s2 GK H2 x vs v us Q I2 r1 r2 q2
end
def um (X:Cx)(id:String)(r:V->List V->Hp->VK->Prop):Prop :=
 ∀(pins:List (Addr×Obj)) (s:Shared) (GK : St) (H:Hp) (x:V) (xs:List V) (v:Value) (us:List Value) (Q:VK),Inv X pins GK H s->RelV x v->Vals xs us->r x xs H Q ->
  wpAny (model X.prog X.w) X.A (call (.builtin id) (v::us)) (EP X pins GK Q) X.xe s
theorem Vals.one:∀{x:V} {us:List Value},Vals [x] us->∃u,us=[u]/\RelV x u
 | _,_,.cons r .nil=>⟨_,rfl,r⟩
theorem Vals.zero:∀{us:List Value},Vals [] us->us=[]
 | _,.nil=>rfl
theorem Vals.dropLast {xs:List V}{us:List Value}(h:Vals xs us):Vals xs.dropLast us.dropLast:=by
 induction h with
 | nil=>exact .nil
 | cons r t ih =>
  cases t with
  | nil=>exact .nil
  | cons q t'=>exact .cons r ih
theorem Vals.eraseIdx:∀{xs:List V} {us:List Value} (i:Nat),Vals xs us->Vals (xs.eraseIdx i) (us.eraseIdx i)
 | _,_,_,.nil=>.nil
 | _,_,0,.cons _ t=>t
 | _,_,i+1,.cons r t=>.cons r (Vals.eraseIdx i t)
theorem xJ {α : Type}(l:List α):l.eraseIdx (l.length-1)=l.dropLast:=by
 induction l with
 | nil=>rfl
 | cons a r ih =>
  cases r with
  | nil=>rfl
  | cons b r =>
   have e:(a::b::r).length-1=((b::r).length-1)+1:=by
    have h1:(a::b::r).length=r.length+2:=rfl
    have h2:(b::r).length=r.length+1:=rfl
    omega
   rw [e,List.eraseIdx_cons_succ,ih]
   all_goals rfl
theorem sf {α : Type}:∀(l:List α) (i:Nat),(l.eraseIdx i).length<=l.length
 | [],_=>GQ _
 | _::_,0=>HP _
 | _::r,i+1=>Ip (sf r i)
section
variable {X:Cx}{pins:List (Addr×Obj)}{GK : St}{H:Hp}{s:Shared}{l b:Addr}{xs ys zs:List V}
theorem Inv.uo {its its':List Value}{n:Nat}{f:Array Value->Array Value}{t':Nat}(I:Inv X pins GK H s)(hH:H l=some (.lst xs))
  (e:s.heap.get? l=some { cls:=.type "list",data:=.seq its.toArray n }) (hf:f its.toArray=its'.toArray) (hv:Vals ys its') (hz:ys.length<=sizeLine) :
  Inv X pins GK (upd H l (.lst ys)) { s with heap:=s.heap.update l (Obj.mapSeq f),toks:=t' }:=by
 have q:=PySem.IsL.update e f
 rw [hf] at q
 refine I.write (x:=l) (e:=l) (by rw [hH];exact trivial) (.inl rfl) (fun b' u hb hu=>(HR s.heap (Obj.mapSeq f) (Ne.symm hb)).trans hu) ⟨_,q⟩ ?_
 exact⟨hz,its',_,hv,q⟩
theorem Inv.F8 {its:List Value}{t':Nat}(I:Inv X pins GK H s)(hv:Vals ys its)(hz:ys.length<=sizeLine) :
  Inv X pins GK (upd H s.heap.objs.size (.lst ys)) { s with heap:=s.heap.push { cls:=.type "list",data:=.seq its.toArray },toks:=t' } :=
 I.laid (fun _ _ q=>GV _ q) (GQ _) ⟨hz,its,0,hv,GX _ rfl⟩
theorem Inv.fresh (I:Inv X pins GK H s):H s.heap.objs.size=none:=I.aW.fresh (GQ _)
theorem Inv.mf (I:Inv X pins GK H s)(hH:H l=some (.lst xs)):xs.length<=sizeLine/\∃(its:List Value) (n:Nat),Vals xs its/\xs.length=its.length/\s.heap.get? l=some { cls:=.type "list",data:=.seq its.toArray n }:=by
 obtain⟨z,its,n,r,e⟩:=I.aW l _ hH
 exact⟨z,its,n,r,r.length,e⟩
theorem Aw {n:Nat}(h:n<=sizeLine):Builtin.List.listTooLong n=false:=by
 unfold Builtin.List.listTooLong
 exact decide_eq_false (by omega)
end
section
variable {X:Cx}
def CL:V->List V->Hp->VK->Prop:=fun x vs H Q=>∃l xs y,x=.ref l/\vs=[y]/\H l=some (.lst xs)/\xs.length<sizeLine/\Q .bC (upd H l (.lst (xs++[y])))
theorem fi:um X "list.append" CL:=by
 intro pins s GK H x vs v us Q I rx rv h
 obtain⟨l,xs,y,rfl,rfl,hH,hz,q⟩:=h
 cases rx
 obtain⟨u,rfl,ru⟩:=rv.one
 obtain⟨z,its,n,r,hl,e⟩:=I.mf hH
 refine call_meets F.slot_list_append ⟨_,e,rfl⟩ F.entry_list_append (F.args_list_append_2 _ _) (PySem.list_append l its.toArray n u (by rw [Ha];omega)) ⟨e,?_⟩
 refine⟨.bC,_,I.uo (its':=its++[u]) hH e (by simp) (r.append (.cons ru .nil)) ?_,rfl,q⟩
 rw [GW,List.length_singleton]
 omega
def CM:V->List V->Hp->VK->Prop:=fun x vs H Q=>∃l b xs zs,x=.ref l/\vs=[.ref b]/\H l=some (.lst xs)/\H b=some (.lst zs)/\xs.length+zs.length<=sizeLine/\Q .bC (upd H l (.lst (xs++zs)))
theorem sg:um X "list.extend" CM:=by
 intro pins s GK H x vs v us Q I rx rv h
 obtain⟨l,b,xs,zs,rfl,rfl,hH,hB,hz,q⟩:=h
 cases rx
 obtain⟨u,rfl,ru⟩:=rv.one
 cases ru
 obtain⟨z,its,n,r,hl,e⟩:=I.mf hH
 obtain⟨z2,its2,n2,r2,hl2,e2⟩:=I.mf hB
 have hsz:its.toArray.size+its2.toArray.size<=sizeLine:=by rw [Ha,Ha];omega
 have hlong:¬(!its.toArray.isEmpty&&Builtin.List.listTooLong (its.toArray.size+its2.toArray.size))=true:=by
  rw [Aw hsz,Bool.and_false]
  exact He
 refine call_meets F.slot_list_extend ⟨_,e,rfl⟩ F.entry_list_extend (F.args_list_extend_2 _ _)
  (AutoSeq1.list_extend_list_list_0 l its.toArray n b its2.toArray n2 hlong (by rw [Ha];omega) (by omega)) ⟨e,e2,?_⟩
 refine⟨.bC,_,I.uo (its':=its++its2) hH e (by simp) (r.append r2) ?_,rfl,q⟩
 rw [GW]
 omega
def Ga:V->List V->Hp->VK->Prop:=fun x vs H Q=>∃l xs y,x=.ref l/\vs=[]/\H l=some (.lst xs)/\xs[xs.length-1]?=some y/\Q y (upd H l (.lst xs.dropLast))
theorem DY:um X "list.pop" Ga:=by
 intro pins s GK H x vs v us Q I rx rv h
 obtain⟨l,xs,y,rfl,rfl,hH,hy,q⟩:=h
 cases rx
 have hus:=rv.zero
 subst hus
 obtain⟨z,its,n,r,hl,e⟩:=I.mf hH
 obtain⟨u,hu,ru⟩:=r.get hy
 have hy':its.toArray[its.toArray.size-1]?=some u:=by
  show its.toArray[its.length-1]?=some u
  rw [<-IH,<-hl]
  exact hu
 refine call_meets F.slot_list_pop ⟨_,e,rfl⟩ F.entry_list_pop (F.args_list_pop_1 _) (MeetsSeq.list_pop_last l its.toArray n u hy' (by rw [Ha];omega)) ⟨e,?_⟩
 refine⟨y,_,I.uo (its':=its.dropLast) hH e ?_ r.dropLast ?_,ru,q⟩
 ·show its.toArray.eraseIdxIfInBounds (its.toArray.size-1)=its.dropLast.toArray
  rw [Ha,List.eraseIdxIfInBounds_toArray,xJ]
 ·rw [List.length_dropLast]
  omega
def DZ:V->List V->Hp->VK->Prop:=fun x vs H Q=>∃l xs i k y,x=.ref l/\vs=[.int i]/\H l=some (.lst xs)/\-(2 ^ 63)<=i/\i<2 ^ 63/\seqIndex? i xs.length=some k/\xs[k]?=some y/\Q y (upd H l (.lst (xs.eraseIdx k)))
theorem Ax:um X "list.pop" DZ:=by
 intro pins s GK H x vs v us Q I rx rv h
 obtain⟨l,xs,i,k,y,rfl,rfl,hH,h1,h2,hk,hy,q⟩:=h
 cases rx
 obtain⟨u,rfl,ru⟩:=rv.one
 obtain⟨t,rfl⟩:=ru
 obtain⟨z,its,n,r,hl,e⟩:=I.mf hH
 obtain⟨w,hw,rw'⟩:=r.get hy
 refine call_meets F.slot_list_pop ⟨_,e,rfl⟩ F.entry_list_pop (F.args_list_pop_2 _ _)
  (MeetsSeq.list_pop_at l its.toArray n i t k w (fitsIndex_both h1 h2) (by rw [Ha,<-hl];exact hk) (by rw [<-IH];exact hw) (by rw [Ha];omega)) ⟨e,?_⟩
 refine⟨y,_,I.uo (its':=its.eraseIdx k) hH e ?_ (r.eraseIdx k) ?_,rw',q⟩
 ·show its.toArray.eraseIdxIfInBounds k=(its.eraseIdx k).toArray
  rw [List.eraseIdxIfInBounds_toArray]
 ·have:=sf xs k
  omega
def Gb:R2:=fun x y H Q=>∃l b xs zs,x=.ref l/\y=.ref b/\H l=some (.lst xs)/\H b=some (.lst zs)/\xs.length+zs.length<=sizeLine/\∀p,H p=none->Q (.ref p) (upd H p (.lst (xs++zs)))
theorem Ea:dX X (binaryOp .Add) Gb:=by
 intro pins s GK H x y v u Q I rx ry h
 obtain⟨l,b,xs,zs,rfl,rfl,hH,hB,hz,q⟩:=h
 cases rx
 cases ry
 obtain⟨z,its,n,r,hl,e⟩:=I.mf hH
 obtain⟨z2,its2,n2,r2,hl2,e2⟩:=I.mf hB
 refine PySem.P.add_list e e2 ?_ (by rw [Ha,Ha];omega)
 have ea:its.toArray++its2.toArray=(its++its2).toArray:=by simp
 rw [ea]
 exact⟨.ref _,_,I.F8 (t':=s.toks) (r.append r2) (by rw [GW];omega),rfl,q _ I.fresh⟩
end
section
variable {prog:Program}{w:World}{A:Around}{E:Value->Shared->Prop}{s:Shared}
end
section
variable {X:Cx}
end
end L2
namespace Fq
open PySem PySem.W PySem.Calls PyProof.Rows
theorem ph {P:Params}{h:Heap}:∀(ns:List Int) (vs:List Value),WellAll P h vs (ns.map WData.int)->IntsAre vs ns:=by
 intro ns
 induction ns with
 | nil =>
  intro vs w
  rw [List.map_nil] at w
  cases w
  exact .nil
 | cons n ns ih =>
  intro vs w
  rw [Hh] at w
  cases w with
  | cons a b =>
   cases a
   exact .cons _ _ (ih _ b)
theorem yP {l:OpenLaw}{n:Nat}(hn:l.most=some n){P:Params}{h:Heap}{args:List WData}{vals:List Value}
  (hpre:l.row.toRowW.claim.pre args=true) (hwl:WellAll P h vals args) :
  ∃a vs ns,vals=[Value.ref a]/\args=[WData.list (ns.map WData.int)]/\h.get? a=some { cls:=.type "list",data:=.seq vs.toArray }/\IntsAre vs ns/\ns.length<=n:=by
 have hsh:WShape.hasAll [] args [.list .int]=true:=(pre_splitW hpre).1
 have hc:l.pre.holds [] { args:=args }=true:=(pre_splitW hpre).2
 obtain⟨d,r,rfl,h1,h2⟩:=hasAllW_cons hsh
 obtain rfl:=hasAllW_nil h2
 obtain⟨xs,rfl,h3⟩:=hasW_list h1
 obtain⟨ns,rfl⟩:=items_int h3
 have hlen:ns.length<=n:=by
  unfold OpenLaw.pre at hc
  have h4:(WTm.not (.lt (.lit (.int (n:Int))) (.len (.arg 0)))).holds [] { args:=[.list (ns.map .int)] }=true:=by
   have h4:=(holds_andW hc).1
   rw [hn] at h4
   exact h4
  have h5:=condW_of h4 (w_not (w_lt w_lit (w_len_list (w_arg rfl))))
  rw [GO] at h5
  refine Nat.le_of_not_lt fun q=>?_
  have q':(n:Int)<((ns.length:Nat):Int):=by omega
  first
   | (rw [decide_eq_true q'] at h5;exact absurd h5 (by decide))
   | (simp at h5;omega)
 cases hwl with
 | cons w1 w2 =>
  cases w2
  cases w1 with
  | list ho hall=>exact⟨_,_,ns,rfl,rfl,ho,ph ns _ hall,hlen⟩
theorem yQ (l:OpenLaw)(args:List WData):l.row.toRowW.claim.post args (.bool true) args=true :=
 postW_of (r:=l.row.toRowW) (X:=(true == true))
  (show WShape.has [] (.bool true) .bool=true by first | rfl | decide | simp [WShape.has,WShape.arms,WShape.armsAll])
  (show (WTm.eq .res (.lit (.bool true))).value [] { args:=args,res:=some (.bool true),after:=args }=some (.bool (true == true)) from w_eq_bool (w_res rfl) w_lit) rfl
theorem vC {l:OpenLaw}{n:Nat}{q:Program}{loose:List Str}{XP:(Str->Option Value)->Heap->Prop}{YP:World->Heap->Prop}{d:DefRec}
  (hn:l.most=some n) (hdf:d.params.defaults=[])
  (call:∀(w:World) (d5 s₁ : Shared) (mg mb:Str->Option Value) (fa:Addr) (o:Obj) (pm cd doc:Value) (a:Addr) (vs:List Value) (ns:List Int),
   Ground q loose [] XP w d5 mg mb s₁.heap->YP w s₁.heap ->
   s₁.heap.get? fa=some o->o.data=.func (docDef d.name d.params d.body d.scope pm cd doc)->s₁.heap.CodeRec cd d.name->mg d.name=some (.ref fa) ->
   s₁.heap.get? a=some { cls:=.type "list",data:=.seq vs.toArray }->IntsAre vs ns->ns.length<=n->s₁.gens = #[] ->
   codeAny (model l.prog w) callerA (.call (.ref fa) ⟨[.ref a],[]⟩) (fun r s'=>r=.ok (.ret (.bool true))/\OldK s₁.heap s'.heap/\s'.os=s₁.os/\AllBare s'.gens) s₁) :
  WalkO q loose XP YP l.row.toRowW d [] (fun f vs=>PySem.call f vs):=by
 intro w d5 s₁ mg mb G Y fa o pm cd doc dV kV ho hd hcd hD hmg hg args vals as hpre hlay hrd hwl hlo
 obtain rfl:dV=.none:=Dflts.none hD hdf
 obtain rfl:kV=.none:=Dflts.noKw hD
 obtain⟨a,vs,ns,rfl,rfl,hobj,hints,hlen⟩:=yP hn hpre hwl
 refine enter_call (JK (call w d5 s₁ mg mb fa o pm cd doc a vs ns G Y ho (fd_plain hd) hcd hmg hobj hints hlen hg) fun r s' hq=>?_)
 obtain⟨rfl,h2,h3,h4⟩:=hq
 exact⟨.inl ⟨.bool true,.bool true,[],rfl,fun _=>rfl,.bool true,yQ l _,fun _=>⟨Ic.nil,fun _ hm=>(nomatch hm)⟩⟩,h2,h3,h4⟩
section
variable {prog:Program}{w:World}{A:Around}{E:Value->Shared->Prop}{s:Shared}{K:Frag}
def ledger (h:Heap)(L d:Addr):List (Addr×Obj):=(Hs h.objs.size).filterMap fun a=>if a=L\/a=d then none else (h.get? a).map fun o=>(a,o)
end
end Fq
namespace L2
open PySem PySem.Spec PyProof.Rows
theorem mh:∀{vs:List Value} {ns:List Int},IntsAre vs ns->Vals (ns.map V.int) vs
 | _,_,.nil=>.nil
 | _,_,.cons n t h=>.cons ⟨t,rfl⟩ (mh h)
def Ay (H:Hp):Prop:=∀b,H b=none\/∃o xs,H b=some (.eU o (.lst xs))
theorem Az {P:Program}{w:World}{K:GP}{mg mb:Str->Option Value}{CX:lZ}{k:Nat}{fa a:Addr}{fd:FuncData}{x:Str}{sp:Sp}{s₁ : Shared}{vs:List Value}{ns:List Int}
    (KX:K.In s₁.heap) (hns:s₁.heap.Ns mainGlobals mg) (hb:s₁.heap.Ns builtinsNs mb) (hbb:∀x:Str,x ≠ "__name__" -> mb x=bootBuiltins x) (hlim:s₁.heap.NoLimit) (hg:s₁.gens = #[])
    (ha:s₁.heap.get? a=some { cls:=.type "list",data:=.seq vs.toArray }) (hi:IntsAre vs ns) (hl:ns.length<=sizeLine) (hr:dq k callerA)
    (F:∀base:Heap,K.In base->base.Ns mainGlobals mg->bp P w K mg base CX k fa fd [x] sp) (hbind:∀(s:Shared) (u:Value),BindsTo s fd ⟨[u],[]⟩ [(x,u)])
    (hsp:∀H:Hp,Ay H->aU K H a (ns.map V.int)->sp [.ref a] H (fun v _=>v=.bl true) fun _ _ _=>False)
    (hCX:∀H e s',CX [] H s₁ (fun _ _ _=>False) e s'->False) :
    codeAny (model P w) callerA (.call (.ref fa) ⟨[.ref a],[]⟩) (fun r s'=>r=.ok (.ret (.bool true))/\OldK s₁.heap s'.heap/\s'.os=s₁.os/\AllBare s'.gens) s₁:=by
  have rv:=mh hi
  have lenV:=hi.length
  have core:∀H:Hp,Ay H->aU K H a (ns.map V.int)->d7 P w H s₁.heap->(∀b,H b≠none->b=a)->(H a≠none->K.lookup a=none) ->
      codeAny (model P w) callerA (.call (.ref fa) ⟨[.ref a],[]⟩) (fun r s'=>r=.ok (.ret (.bool true))/\OldK s₁.heap s'.heap/\s'.os=s₁.os/\AllBare s'.gens) s₁:=by
    intro H hO hS aW hA hK
    have base_of:∀{b:Addr} {o:Obj},s₁.heap.get? b=some o->H b=none->(kj s₁.heap H).get? b=some o:=fun e n=>Ad e n
    have noA:∀{b:Addr} {o:Obj} {es:Array DictEntry} {ep:Nat},s₁.heap.get? b=some o->o.data=.dict es ep->H b=none:=fun {b o es ep} e d=>by
      cases q:H b with
      | none=>rfl
      | some u =>
        have e':b=a:=hA b (by rw [q];simp)
        subst e'
        rw [ha] at e;cases e
        have d':Data.seq vs.toArray _=Data.dict es ep:=d
        cases d'
    have nsK:∀{b:Addr} {m:Str->Option Value},s₁.heap.Ns b m->(kj s₁.heap H).Ns b m:=fun {b m} ⟨o,es,ep,e,d,r⟩=>⟨o,es,ep,base_of e (noA e d),d,r⟩
    have hKb:K.In (kj s₁.heap H):=fun b o e=>base_of (KX b o e) (by
      cases q:H b with
      | none=>rfl
      | some u =>
        have e':b=a:=hA b (by rw [q];simp)
        subst e'
        rw [hK (by rw [q];simp)] at e;cases e)
    have hM:Mod K mg (kj s₁.heap H):=⟨hKb,nsK hns,⟨mb,nsK hb,hbb⟩,let ⟨mc,h1,h2⟩:=hlim;⟨mc,nsK h1,h2⟩⟩
    have e0:oA P w K mg (kj s₁.heap H) callerA [] s₁ H:=⟨rfl,hM,fun b o e=>Cz e,Nat.le_of_eq (yB _ _),trivial,fun b hb=>absurd (show b∈([]:List Addr) from hb) (by simp),aW,.of_eq hg⟩
    refine JK ((F _ hKb (nsK hns)).run callerA [] s₁ H ⟨[.ref a],[]⟩ [.ref a] [.ref a] _ _ hr e0 (hbind s₁ (.ref a)) (.cons rfl .nil) (hsp H hO hS)) fun r s' h=>?_
    cases r with
    | error e=>exact (hCX H e s' h).elim
    | ok fl =>
      cases fl with
      | next=>exact False.elim h
      | brk=>exact False.elim h
      | cont=>exact False.elim h
      | ret u =>
        obtain⟨v,H',os,bare,un,hok',r',q⟩:=h
        have q':v=.bl true:=q
        subst q'
        obtain rfl:u=Value.bool true:=r'
        refine⟨rfl,OldK.of_keep fun b o e=>?_,os,bare⟩
        cases q:H b with
        | none=>exact un.keep b o e q (by intro z;exact absurd (show b∈([]:List Addr) from z) (by simp)) (by simp)
        | some u =>
          rcases hO b with z | ⟨ob,xs,z⟩
          . rw [q] at z;cases z
          . have z2:=un.iE b ob _ z
            obtain⟨e1,_⟩:=aW b _ z
            obtain⟨e2,_⟩:=hok' b _ z2
            rw [e] at e1;cases e1
            exact e2
  cases hk:K.lookup a with
  | some o =>
    have e:=KX a o hk
    rw [ha] at e
    cases e
    refine core (fun _=>none) (fun _=>.inl rfl) (.inr ⟨_,vs.toArray,_,hk,rfl,rfl,rfl,by rw [Ha,lenV];exact hl,by simpa using rv⟩) (fun b u z=>by have z':(none:Option HO)=some u:=z;cases z') (fun b z=>absurd rfl z) fun z=>absurd rfl z
  | none =>
    refine core (fun b=>if b=a then some (.eU { cls:=.type "list",data:=.seq vs.toArray } (.lst (ns.map V.int))) else none) (fun b=>?_) (.inl (.inr ⟨{ cls:=.type "list",data:=.seq vs.toArray },if_pos rfl⟩)) (fun b u z=>?_) (fun b z=>?_) fun _=>hk
    . by_cases hb:b=a
      . exact .inr ⟨_,_,if_pos hb⟩
      . exact .inl (if_neg hb)
    . by_cases hb:b=a
      . have z':=(if_pos hb).symm.trans z
        cases z'
        subst hb
        exact⟨ha,by rw [GO];exact hl,vs,_,rv,ha⟩
      . have z':=(if_neg hb).symm.trans z
        cases z'
    . by_cases hb:b=a
      . exact hb
      . exact absurd (if_neg hb) z
abbrev KOf {K:GP}{h:Heap}(_:K.In h):GP:=K
theorem CN {l:PySem.W.OpenLaw}{n k:Nat}{q:Program}{loose:List Str}{XP:(Str->Option Value)->Heap->Prop}{YP:World->Heap->Prop}{d:DefRec}{K:Params->GP}{CX:World->lZ}{sp:World->Sp}{x:Str}
  (hn:l.most=some n) (hn2:n<=sizeLine) (hdf:d.params.defaults=[]) (hr:dq k callerA)
  (hY:∀(w:World) (h:Heap),YP w h->(K w.params).In h)
  (F:∀(w:World) (mg:Str->Option Value) (fa:Addr) (h:Heap),(K w.params).In h->h.Ns mainGlobals mg->mg d.name=some (.ref fa) ->
   ∃fd:FuncData,(∀(s:Shared) (u:Value),BindsTo s fd ⟨[u],[]⟩ [(x,u)]) /\
    ∀base:Heap,(K w.params).In base->base.Ns mainGlobals mg->bp l.prog w (K w.params) mg base (CX w) k fa fd [x] (sp w))
  (hsp:∀(w:World) (H:Hp) (a:Addr) (ns:List Int),ns.length<=n->Ay H->aU (K w.params) H a (ns.map V.int)->sp w [.ref a] H (fun v _=>v=.bl true) fun _ _ _=>False)
  (hCX:∀(w:World) (H:Hp) (s:Shared) (e:Value) (s':Shared),CX w [] H s (fun _ _ _=>False) e s'->False) :
  PySem.W.WalkO q loose XP YP l.row.toRowW d [] (fun f vs=>PySem.call f vs):=by
 refine Fq.vC hn hdf fun w d5 s₁ mg mb fa o pm cd doc a vs ns G Y ho hd hcd hmg hobj hints hlen hg=>?_
 have KX:=hY w _ Y
 obtain⟨fd,hb,hF⟩:=F w mg fa _ KX G.T.g hmg
 exact Az KX G.T.g G.T.b G.T.builtins G.T.nolimit hg hobj hints (GY hlen hn2) hr hF hb (fun H hO hS=>hsp w H a ns hlen hO hS) fun H e s'=>hCX w H s₁ e s'
def inClass (s:Stmt)(j:Nat):Stmt:=match s with
 | .ClassDef _ _ _ body _ _ _ _ _ _ _=>body.getD j (.Pass ⟨0,0,0,0⟩)
 | _=>.Pass ⟨0,0,0,0⟩
def dU (s:Stmt):Arguments:=match s with
 | .FunctionDef _ a _ _ _ _ _ _ _ _=>a
 | _=>{ posonlyargs:=[],args:=[],vararg:=none,kwonlyargs:=[],kw_defaults:=[],kwarg:=none,defaults:=[] }
def dB (s:Stmt):List Stmt:=match s with
 | .FunctionDef _ _ b _ _ _ _ _ _ _=>b
 | _=>[]
def ay (s:Stmt):Scope:=match s with
 | .FunctionDef _ _ _ _ _ _ sc _ _ _=>sc
 | _=>{ kind:=.function,names:=[],isGenerator:=false,isCoroutine:=false }
abbrev bT:lZ:=fun _ _ _ _ _ _=>False
abbrev E0:XK:=fun _ _ _=>False
theorem xK {X:Cx}:Passes bT X E0:=fun _ _ _ _ _ _ _ h=>h.elim
structure b0 (K:GP) (x qual:Str) (st:Stmt) (f:Addr) (fd:FuncData):Prop where
 ex:∃(oc:Value) (od:Option Addr) (kV doc pm:Value) (an:Option Addr) (cdv ct:Value) (osl:Array (Option Value)),
  fd=Hu x qual (dU st) (dB st) (ay st) .none kV doc pm an cdv ct/\K.lookup f=some ⟨oc,od,.func fd,osl⟩/\Ih K cdv qual=true
 kp:HF K (.ref f)=true
section
variable {P:Program}{w:World}{K:GP}{mg:Str->Option Value}{base:Heap}
theorem b0.ok {x qual:Str}{st:Stmt}{f:Addr}{fd:FuncData}{N ps:List Str}{k:Nat}{sp:Sp}(F:b0 K x qual st f fd)(S:aS N ps (ay st))(len:∀vs H Q E,sp vs H Q E->vs.length=ps.length)
  (hbody:∀(cdv:Value) (A:Around) (outer:List Env) (s:Shared) (H:Hp) (vs:List V) (Q:VK) (E:XK),dq k (A.deeper (envOfC qual (ay st) s.heap.objs.size f cdv))->sp vs H Q E ->
   ∃t,iY (oB bT P w K mg base N qual (ay st) f cdv A outer s H E).we (dB st) t/\t { nx:=fun _ H'=>Q .bC H',rt:=Q } (start N vs) H):bp P w K mg base bT (k+1) f fd ps sp:=by
 obtain⟨oc,od,kV,doc,pm,an,cdv,ct,osl,rfl,lk,hcd⟩:=F.ex
 refine Ca lk hcd S len fun A outer s H vs Q E hr hsp=>?_
 obtain⟨t,h,q⟩:=hbody cdv A outer s H vs Q E hr hsp
 exact⟨t,h.we,q⟩
theorem b0.binds {x qual:Str}{st:Stmt}{f:Addr}{fd:FuncData}{ps:List Str}(F:b0 K x qual st f fd)
  (h:∀(kV doc pm:Value) (an:Option Addr) (cdv ct:Value) (us:List Value),us.length=ps.length->bindArgs (Hu x qual (dU st) (dB st) (ay st) .none kV doc pm an cdv ct) ⟨us,[]⟩=pure (ps.zip us)):Binds K fd ps []:=by
 obtain⟨oc,od,kV,doc,pm,an,cdv,ct,osl,rfl,lk,hcd⟩:=F.ex
 exact .all (h kV doc pm an cdv ct)
theorem yR {x qual:Str}{st:Stmt}{f:Addr}{oc:Value}{od an:Option Addr}{osl:Array (Option Value)}{kV doc pm cdv ct:Value}(l:K.lookup f=some ⟨oc,od,.func (Hu x qual (dU st) (dB st) (ay st) .none kV doc pm an cdv ct),osl⟩)
  (c:Ih K cdv qual=true) (k:HF K (.ref f)=true):b0 K x qual st f (Hu x qual (dU st) (dB st) (ay st) .none kV doc pm an cdv ct):=⟨⟨oc,od,kV,doc,pm,an,cdv,ct,osl,rfl,l,c⟩,k⟩
end
theorem dt {A:Around}{k:Nat}(hr:dq k A):A.units+1<cLine:=Iq (Nat.add_le_add_left (by decide:1<=64) _) hr.units
theorem bE {n:Nat}(h:n<=1000):n<sizeLine:=Iq h (by decide)
section
variable {X:Cx}
theorem pv (i:Nat){x:Str}{pos:Pos}(hN:X.N[i]?=some x:=by rfl)(hv:DA X.env.scope x:=by first | exact GN rfl | exact G6 (GN rfl) | exact G6 (G6 rfl))(hd:(x == ("__debug__" : Str))=false:=by decide)
  (hcd:(x == ("__classdict__" : Str))=false:=by decide):PE X (.Name x pos) (uc i):=DB hN hv hd hcd
end
theorem bO {A B:Prop}(h:B):if false=true then A else B:=by
 rw [if_neg He]
 exact h
theorem bL {A B:Prop}(h:A):if true=true then A else B:=by
 rw [if_pos rfl]
 exact h
theorem cB {c A B:Prop}[Decidable c](h1:c->A)(h2:¬c->B):if c then A else B:=by
 by_cases h:c
 ·rw [if_pos h]
  exact h1 h
 ·rw [if_neg h]
  exact h2 h
def ao (H H':Hp):Prop:=∀b o,H b=some o->H' b=some o
theorem ao.refl (H:Hp):ao H H:=fun _ _ h=>h
theorem ao.trans {H H1 H2:Hp}(a:ao H H1)(b:ao H1 H2):ao H H2:=fun c o h=>b c o (a c o h)
theorem ao.free {H H':Hp}(e:ao H H'){l:Addr}(h:H' l=Option.none):H l=Option.none:=by
 cases q:H l with
 | none=>rfl
 | some o =>
  rw [e l o q] at h
  cases h
theorem ao.seq {K:GP}{H H':Hp}{a:Addr}{xs:List V}(e:ao H H')(h:aU K H a xs):aU K H' a xs:=by
 rcases h with (h | ⟨o,h⟩) | h
 ·exact .inl (.inl (e _ _ h))
 ·exact .inl (.inr ⟨o,e _ _ h⟩)
 ·exact .inr h
section
variable {X:Cx}
theorem CO:dX X (binaryOp .Mult) (rI IntMulOk fun i j=>.int (i*j)):=wm fun _ _ _ _ _ _ _ hc q=>mul_int q hc
def E7 (_i j:Int):Prop:=0<j/\j.natAbs.log2<9000
theorem AA:dX X (binaryOp .FloorDiv) (rI E7 fun i j=>.int (i / j)):=wm fun i j _ _ _ _ _ hc q=>by
 have h1:(0:Int)<j:=hc.1
 exact floordiv_int (by omega) (by rw [Int.fdiv_eq_ediv_of_nonneg i (by omega)];exact q) (.inl (PyProof.noPylong_of_log2 hc.2))
structure Own (P:Program) (w:World) (K:GP) (mg:Str->Option Value) (base:Heap) (x:Str) (k:Nat) (ps:List Str) (sp:Sp):Prop where
 ex:∃f fd,bp P w K mg base bT k f fd ps sp/\mg x=some (.ref f)/\HF K (.ref f)=true/\Binds K fd ps []
variable {x:Str}{k:Nat}{ps:List Str}{sp:Sp}{e:Expr}{es:List Expr}{t:TA}{p pos:Pos}
theorem aw (o:Own X.prog X.w X.K X.mg X.base x k ps sp)(hr:dq k X.A)(hg:Gl X x)(ha:PA X (e::es) t)
  (hdb:(x == ("__debug__" : Str))=false:=by decide) (he:starEach (e::es) X.env=(false,eval e X.env)::starEach es X.env:=by rfl)
  (hpl:(backTo pos (starEach es X.env)).any (·.1)=false:=by rfl):PE X (.Call (.Name x p) (e::es) [] pos) (xE sp [] E0 t):=by
 obtain⟨f,fd,F,hm,hk,hb⟩:=o.ex
 exact CF F hr hg hm hk hb .nil xK ha hdb he hpl
end
theorem bW {α : Type}{x:α}{xs:List α}:eV (x::xs) 0=some x:=bA (j:=0) rfl
theorem cR {α : Type}{x y:α}{xs:List α}:eV (x::y::xs) 1=some y:=bA (j:=1) rfl
theorem at2 {α : Type}{x y z:α}{xs:List α}:eV (x::y::z::xs) 2=some z:=bA (j:=2) rfl
theorem Gv {α : Type}{x y z u:α}{xs:List α}:eV (x::y::z::u::xs) 3=some u:=bA (j:=3) rfl
theorem xM {α : Type}{xs:List α}{i:Int}(h0:0<=i)(h1:i<xs.length):∃v,eV xs i=some v/\v∈xs:=by
 obtain⟨j,rfl⟩:∃j:Nat,i=j:=⟨i.toNat,by omega⟩
 have hj:j<xs.length:=by omega
 exact⟨xs[j],bA (by simp [hj]),HK hj⟩
theorem bJ:bootBuiltins "len" = some (.builtin "len"):=by decide +kernel
theorem uq:bootBuiltins "min" = some (.builtin "min"):=by decide +kernel
theorem Eb:bootBuiltins "max" = some (.builtin "max"):=by decide +kernel
theorem pA:bootBuiltins "int" = some (.type "int"):=by decide +kernel
theorem cI:bootBuiltins "tuple" = some (.type "tuple"):=by decide +kernel
theorem qJ:bootBuiltins "list" = some (.type "list"):=by decide +kernel
def bU (H:Hp)(b:Addr):Prop:=∃x y:Int,H b=some (.lst [.int x,.int y])/\0<=y/\y<2147483648
def Fix (b:Addr)(H H':Hp):Prop:=∀c o,H c=some o->c≠b->H' c=some o
theorem Fix.refl (b:Addr)(H:Hp):Fix b H H:=fun _ _ h _=>h
theorem Fix.trans {b:Addr}{H H1 H2:Hp}(u:Fix b H H1)(v:Fix b H1 H2):Fix b H H2:=fun c o h n=>v c o (u c o h n) n
theorem Fix.Cb {b:Addr}{H:Hp}{o:HO}:Fix b H (upd H b o):=fun c u h n=>by rw [au n];exact h
theorem Fix.new {b p:Addr}{H:Hp}{o:HO}(hp:H p=none):Fix b H (upd H p o):=fun c u h _=>by rw [au (aG h hp)];exact h
theorem Fix.of_same {b:Addr}{H H':Hp}(h:ao H H'):Fix b H H':=fun c o e _=>h c o e
theorem ao.new {p:Addr}{H:Hp}{o:HO}(hp:H p=none):ao H (upd H p o):=fun c u h=>by rw [au (aG h hp)];exact h
theorem bU.new {b p:Addr}{H:Hp}{o:HO}(h:bU H b)(hp:H p=none):bU (upd H p o) b:=by
 obtain⟨x,y,e,q⟩:=h
 exact⟨x,y,by rw [au (aG e hp)];exact e,q⟩
theorem bU.same {b:Addr}{H H':Hp}(h:bU H b)(s:ao H H'):bU H' b:=by
 obtain⟨x,y,e,q⟩:=h
 exact⟨x,y,s _ _ e,q⟩
theorem nS {α : Type}{x0:α}:[x0].length<=sizeLine:=by show 1<=sizeLine;decide
theorem ln2 {α : Type}{x0 x1:α}:[x0,x1].length<=sizeLine:=by show 2<=sizeLine;decide
theorem si {α : Type}{x0 x1 x2:α}:[x0,x1,x2].length<=sizeLine:=by show 3<=sizeLine;decide
theorem Ec {α : Type}{x0 x1 x2 x3 x4:α}:[x0,x1,x2,x3,x4].length<=sizeLine:=by show 5<=sizeLine;decide
theorem mi {α : Type}{x0 x1 x2 x3 x4 x5 x6:α}:[x0,x1,x2,x3,x4,x5,x6].length<=sizeLine:=by show 7<=sizeLine;decide
theorem ao.iA {b:Addr}{H H1 H2:Hp}(s:ao H H1)(n:H b=none)(f:Fix b H1 H2):ao H H2:=fun c o e=>f c o (s c o e) (aG e n)
theorem bU.bI {b p:Addr}{H:Hp}{xs:List V}(h:bU H b)(e:H p=some (.tup xs)):p≠b:=by
 obtain⟨x,y,e1,_⟩:=h
 exact bN e e1 (by intro z;cases z)
theorem bU.du {b p:Addr}{H:Hp}(h:bU H b)(e:H p=none):p≠b:=by
 obtain⟨x,y,e1,_⟩:=h
 exact fun z=>aG e1 e z.symm
def Cc (K:GP):Sp:=fun vs H Q _=>∃(a:Addr) (ns:List Int) (k:Int),vs=[.ref a,.int k]/\aU K H a (ns.map V.int)/\0<=k /\
 ∀b H',H b=none->bU H' b->ao H H'->Q (.ref b) H'
def eN:Sp:=fun vs H Q _=>∃(b:Addr) (m:Int),vs=[.ref b,.int m]/\bU H b/\(0<m/\m.natAbs.log2<9000) /\
 ∀r H',0<=r->r<m->bU H' b->Fix b H H'->Q (.int r) H'
def tT (K:GP):Sp:=fun vs H Q _=>∃(a:Addr) (ns:List Int),vs=[.ref a]/\aU K H a (ns.map V.int)/\ns.length<=63/\∀H',Q (.bl true) H'
def j3 (cells:List (Str×Addr)):List (Str×NameKind)->List (Str×Addr)->List (Str×Addr)
 | [],cs=>cs
 | (n,k)::r,cs=>j3 cells r (if k == .free then (n,(cells.lookup n).getD 0)::cs else cs)
theorem pB {scope:Scope}{env:Env}(hf:∀y∈scope.names,y.2=.free->∃c,env.cells.lookup y.1=some c):closureFor scope env=pure (j3 env.cells scope.names []):=by
 have key:∀(names:List (Str×NameKind)) (cs:List (Str×Addr)),(∀y∈names,y.2=.free->∃c,env.cells.lookup y.1=some c) ->
   (forIn names cs fun x r=>match x with
    | (name,kind)=>if (kind == NameKind.free)=true then (do let a <-cellOf env name;pure (ForInStep.yield ((name,a)::r))) else pure (ForInStep.yield r):Sem (List (Str×Addr)))=pure (j3 env.cells names cs):=by
  intro names
  induction names with
  | nil=>intro cs _;rfl
  | cons y r ih =>
   intro cs hy
   obtain⟨n,k⟩:=y
   have ih':=fun cs=>ih cs fun z hz=>hy z (G1 _ hz)
   rw [HS]
   by_cases hk:(k == NameKind.free)=true
   ·have e:k=.free:=by simpa using hk
    obtain⟨c,hc⟩:=hy (n,k) GZ e
    have hc':env.cells.lookup n=some c:=hc
    simp only [hk,if_true,cellOf,hc',pure_bind,j3,Option.getD_some]
    exact ih' _
   ·have hk':(k == NameKind.free)=false:=by simpa using hk
    simp only [hk',Ie,if_false,pure_bind,j3]
    exact ih' _
 unfold closureFor
 have e:=key scope.names [] hf
 show ((forIn scope.names ([]:List (Str×Addr)) fun x r=>match x with
    | (name,kind)=>if (kind == NameKind.free)=true then (do let a <-cellOf env name;pure (ForInStep.yield ((name,a)::r))) else pure (ForInStep.yield r):Sem (List (Str×Addr))) >>= fun r=>pure r)=_
 rw [e,pure_bind]
theorem mj {cells:List (Str×Addr)}:∀(names:List (Str×NameKind)) (cs:List (Str×Addr)),(∀y∈names,y.2=.free->∃c,cells.lookup y.1=some c) ->
  (∀x c,cs.lookup x=some c->cells.lookup x=some c)->∀x c,(j3 cells names cs).lookup x=some c->cells.lookup x=some c
 | [],_,_,h,x,c,e=>h x c e
 | (n,k)::r,cs,hf,h,x,c,e=>by
  refine mj r _ (fun y hy=>hf y (G1 _ hy)) (fun z d hz=>?_) x c e
  by_cases hk:(k == NameKind.free)=true
  ·rw [if_pos hk] at hz
   obtain⟨c',hc⟩:=hf (n,k) GZ (by simpa using hk)
   have hc':cells.lookup n=some c':=hc
   rw [HU] at hz
   cases hzn:z == n with
   | true =>
    rw [hzn] at hz
    have:z=n:=by simpa using hzn
    subst this
    rw [hc'] at hz ⊢
    simpa using hz
   | false=>rw [hzn] at hz;exact h z d hz
  ·rw [if_neg hk] at hz;exact h z d hz
theorem qK {cells:List (Str×Addr)}{x:Str}:∀(names:List (Str×NameKind)) (cs:List (Str×Addr)),((x,NameKind.free)∈names\/∃c,cs.lookup x=some c)->∃c,(j3 cells names cs).lookup x=some c
 | [],_,h=>by
  rcases h with h | h
  ·cases h
  ·exact h
 | (n,k)::r,cs,h=>by
  refine qK r _ ?_
  by_cases hk:(k == NameKind.free)=true
  ·rw [if_pos hk]
   cases hxn:x == n with
   | true=>exact .inr ⟨_,by rw [HU,hxn]⟩
   | false =>
    rcases h with h | ⟨c,h⟩
    ·rcases GS.mp h with h | h
     ·have:x=n:=(Prod.mk.inj h).1
      subst this
      simp at hxn
     ·exact .inl h
    ·exact .inr ⟨c,by rw [HU,hxn];exact h⟩
  ·rw [if_neg hk]
   rcases h with h | h
   ·rcases GS.mp h with h | h
    ·have:NameKind.free=k:=(Prod.mk.inj h).2
     subst this
     simp at hk
    ·exact .inl h
   ·exact .inr h
theorem jc {env:Env}{x:Str}{k:NameKind}(hk:k=.cell\/k=.free):∀{names:List (Str×NameKind)},(∀y∈names,y.2≠.cell) ->
  (names.map fun (n,k)=>if (k == NameKind.free&&env.scope.kind == .function&&env.kindOf n == some .cell) then (n,NameKind.cell) else (n,k)).lookup x=some k->(x,NameKind.free)∈names
 | [],_,h=>by simp at h
 | (n,q)::r,hc,h=>by
  have ih:=jc (env:=env) (x:=x) hk (names:=r) (fun y hy=>hc y (G1 _ hy))
  have h':HA x ((if (q == NameKind.free&&env.scope.kind == .function&&env.kindOf n == some .cell)=true then (n,NameKind.cell) else (n,q))::_)=some k:=h
  by_cases hq:(q == NameKind.free&&env.scope.kind == .function&&env.kindOf n == some .cell)=true
  ·rw [if_pos hq,HU] at h'
   have eq:q=.free:=by
    rw [Hb,Hb] at hq
    simpa using hq.1.1
   cases hxn:x == n with
   | true =>
    have:x=n:=by simpa using hxn
    subst this;subst eq
    exact GZ
   | false=>rw [hxn] at h';exact G1 _ (ih h')
  ·rw [if_neg hq,HU] at h'
   cases hxn:x == n with
   | true =>
    rw [hxn] at h'
    have:x=n:=by simpa using hxn
    subst this
    have e:q=k:=G5.inj h'
    subst e
    rcases hk with hk | hk
    ·exact absurd hk (hc (x,q) GZ)
    ·subst hk;exact GZ
   | false=>rw [hxn] at h';exact G1 _ (ih h')
theorem ml {env:Env}{x:Str}:∀{names:List (Str×NameKind)},names.lookup x=some .free ->
  (names.map fun (n,k)=>if (k == NameKind.free&&env.scope.kind == .function&&env.kindOf n == some .cell) then (n,NameKind.cell) else (n,k)).lookup x=some .cell \/
  (names.map fun (n,k)=>if (k == NameKind.free&&env.scope.kind == .function&&env.kindOf n == some .cell) then (n,NameKind.cell) else (n,k)).lookup x=some .free
 | [],h=>by simp at h
 | (n,q)::r,h=>by
  have ih:=ml (env:=env) (x:=x) (names:=r)
  show HA x ((if (q == NameKind.free&&env.scope.kind == .function&&env.kindOf n == some .cell)=true then (n,NameKind.cell) else (n,q))::_)=some .cell \/
   HA x ((if (q == NameKind.free&&env.scope.kind == .function&&env.kindOf n == some .cell)=true then (n,NameKind.cell) else (n,q))::_)=some .free
  rw [HU] at h
  by_cases hq:(q == NameKind.free&&env.scope.kind == .function&&env.kindOf n == some .cell)=true
  ·rw [if_pos hq,HU]
   cases hxn:x == n with
   | true=>exact .inl rfl
   | false=>rw [hxn] at h;exact ih h
  ·rw [if_neg hq,HU]
   cases hxn:x == n with
   | true=>rw [hxn] at h;exact .inr h
   | false=>rw [hxn] at h;exact ih h
def gJ (X:Cx)(scope:Scope)(C:Addr)(N':List Str)(fp:List Addr)(s₁ : Shared)(H₁ : Hp):Cx where
 prog:=X.prog
 w:=X.w
 K:=X.K
 mg:=X.mg
 base:=X.base
 A:=X.A
 N:=N'
 d5:=s₁
 km:=H₁
 env:=compEnvC scope (j3 X.env.cells scope.names []) C X.env
 outer:=X.stack
 stack:=X.stack
 ex:=fp
 fn:=fun _=>false
 calm:=X.calm
 pn:=[]
 xe:=fun _ _=>False
def hG (X:Cx)(scope:Scope):List Str->List Nat->Prop
 | [],[]=>True
 | x::fr,j::js=>(X.N[j]?=some x/\(X.env.kindOf x=some .cell\/X.env.kindOf x=some .free)/\scope.names.lookup x=some .free)/\hG X scope fr js
 | _,_=>False
theorem hG.len {X:Cx}{scope:Scope}:∀{fr:List Str} {js:List Nat},hG X scope fr js->fr.length=js.length
 | [],[],_=>rfl
 | _::_,_::_,h=>by simp [hG.len h.2]
 | [],_::_,h=>h.elim
 | _::_,[],h=>h.elim
theorem hG.mem {X:Cx}{scope:Scope}{x:Str}:∀{fr:List Str} {js:List Nat},hG X scope fr js->x∈fr->X.env.kindOf x=some .cell\/X.env.kindOf x=some .free
 | [],[],_,h=>by cases h
 | a::fr,b::js,h,hm=>by
  rcases GS.mp hm with rfl | hm
  ·exact h.1.2.1
  ·exact hG.mem h.2 hm
 | [],_::_,h,_=>h.elim
 | _::_,[],h,_=>h.elim
theorem hG.get {X:Cx}{scope:Scope}:∀{fr:List Str} {js:List Nat} {i:Nat} {x:Str} {j:Nat},hG X scope fr js->fr[i]?=some x->js[i]?=some j ->
  X.N[j]?=some x/\(X.env.kindOf x=some .cell\/X.env.kindOf x=some .free)/\scope.names.lookup x=some .free
 | [],[],_,_,_,_,h,_=>by simp at h
 | a::fr,b::js,0,x,j,h,h1,h2=>by
  simp at h1 h2
  subst h1;subst h2
  exact h.1
 | a::fr,b::js,i+1,x,j,h,h1,h2=>hG.get h.2 (by simpa using h1) (by simpa using h2)
 | [],_::_,_,_,_,h,_,_=>h.elim
 | _::_,[],_,_,_,h,_,_=>h.elim
def nT (n:Nat)(js:List Nat)(GK : St):St:=IX n none++js.map fun j=>GK.getD j none
theorem Ed {X:Cx}{pins:List (Addr×Obj)}{GK : St}{H:Hp}{s:Shared}{scope:Scope}{fp:List Addr}{C:Addr}{N':List Str}(I:Inv X pins GK H s)(hk:scope.kind=.function)(hcell:∀y∈scope.names,y.2≠.cell)
  (hf:∀y∈scope.names,y.2=.free->∃c,X.env.cells.lookup y.1=some c) (hC:s.heap.objs.size<=C) (hfp:∀b∈fp,iG X pins H b) (hlt:∀b∈fp,b<s.heap.objs.size):(gJ X scope C N' fp s H).Ok:=by
 have ag:∀x c,(j3 X.env.cells scope.names []).lookup x=some c->X.env.cells.lookup x=some c:=mj scope.names [] hf fun x c e=>by simp at e
 refine⟨I.ok.mod,hk,I.ok.glob,I.ok.blt,hC,fun x y c h1 h2=>I.ok.inj x y c (ag x c h1) (ag y c h2),fun x hx=>?_,(fun x c h=>(by cases h)),I.ok.hd,I.ok.frames,.inl rfl,fun b hb=>?_,I.bs,?_,fun b o e hb=>?_,fun b hb=>?_,I.stack,I.wb⟩
 ·refine qK scope.names [] (.inl ?_)
  rcases hx with hx | hx
  ·exact jc (.inl rfl) hcell hx
  ·exact jc (.inr rfl) hcell hx
 ·obtain⟨h1,h2,h3,h4,h5,h6⟩:=hfp b hb
  exact⟨G0 (Hj (hlt b hb) hC),fun x c e=>h5 x c (ag x c e)⟩
 ·exact GY I.ok.o6 I.sz
 ·obtain⟨h1,h2,h3,h4,h5,h6⟩:=hfp b hb
  rcases h4 with h4 | h4
  ·exact I.ok.tY b o e h4
  ·exact absurd (Hj (GU e) (GY I.ok.o6 h4)) (Hf _)
 ·obtain⟨h1,h2,h3,h4,h5,h6⟩:=hfp b hb
  intro z
  rcases GS.mp (I.o7 b z) with z | z
  ·exact h2 z
  ·exact h3 z
def wA (J:It)(n:Nat)(js:List Nat)(g:TG)(ct:TT)(te:TE)(acc:Addr)(GK : St)(H1:Hp)(Q:VK):Prop :=
 ∃W:Nat->Nat->List V->St->Hp->Prop,(∃m,W 0 m [] (nT n js GK) (upd H1 acc (.lst [])))/\∀i m ys GL H2,W i m ys GL H2->H2 acc=some (.lst ys)/\ys.length<sizeLine /\
  ((J.stop i H2/\Q (.ref acc) H2)\/(J.go i H2/\∃N:List V->St->Hp->Prop,(∀ys' τ' H',N ys' τ' H'->∃m',m' < m/\W (i+1) m' ys' τ' H')/\∀x H3,J.wg i H2 x H3->g x GL H3 fun τ1 H4=>ct τ1 H4 fun b H5 =>
   if b=true then te τ1 H5 fun y H6=>H6 acc=some (.lst ys)/\N (ys++[y]) τ1 (upd H6 acc (.lst (ys++[y]))) else N ys τ1 H5))
def Fs (n:Nat)(js:List Nat)(wi:TI)(g:TG)(ct:TT)(te:TE):TE:=fun GK H Q=>wi GK H fun J H1=>∀acc,H1 acc=none->wA J n js g ct te acc GK H1 Q
def yS (X:Cx)(ifs:List Expr)(t:TT):Prop :=
 ∀(pins:List (Addr×Obj)) (s:Shared) (GK : St) (H:Hp) (Q:Bool->Hp->Prop),Inv X pins GK H s->t GK H Q ->
  wpAny (model X.prog X.w) X.A (forIn ifs true fun c r=>if r=true then do let ok <-isTrue c X.env (eval c X.env);pure (ForInStep.yield ok) else pure (ForInStep.yield r)) (TP X pins GK Q) X.xe s
def Ee:TT:=fun _ H Q=>Q true H
theorem dI {X:Cx}:yS X [] Ee:=fun _ _ GK H Q I h=>Jy ⟨H,I,h⟩
theorem qL {X:Cx}{c:Expr}{t:TT}(h:PT X c t):yS X [c] t:=by
 intro pins s GK H Q I q
 rw [HS]
 simp only [if_true,bind_assoc,pure_bind]
 refine Jx (bg (h pins s GK H Q I q) fun b s1 h1=>?_)
 exact Jy h1
section
variable {X:Cx}{pos:Pos}
theorem lM {prog:Program}{w:World}{A:Around}{R:Result->Shared->Prop}{s:Shared}{elt target iter:Expr}{ifs:List Expr}{scope:Scope}{pos:Pos}{it acc:Value}{env:Env}(I:Nat->Shared->Prop)
  (turn:∀n s,I n s->wpAny (model prog w) A (pyNext it) (fun r s₁=>match r with
   | none=>R (.ok .next) s₁
   | some v=>wpAny (model prog w) A (letOwnedTupleGo target it v) (fun _ s₁'=>wpAny (model prog w) A (assign target env v) (fun _ s₂ =>
     wpAny (model prog w) A (forIn ifs true fun c r=>if r=true then do let ok <-isTrue c env (eval c env);pure (ForInStep.yield ok) else pure (ForInStep.yield r)) (fun ok s₃ =>
      if ok=true then wpAny (model prog w) A (eval elt env) (fun x s₄ =>
       wpAny (model prog w) A (call (.builtin "list.append") [acc,x]) (fun _ s₅=>∃m,m<n/\I m s₅) (fun _ _=>False) s₄) (fun _ _=>False) s₃
      else ∃m,m<n/\I m s₃) (fun _ _=>False) s₂) (fun _ _=>False) s₁') (fun _ _=>False) s₁) (fun _ _=>False) s)
  (n:Nat) (h:I n s) :
  codeAny (model prog w) A (.compLoop (.ListComp elt [⟨target,iter,ifs,0⟩] scope pos) 0 it acc env) R s:=by
 refine codeAny_loop rfl I (fun n s hI=>?_) n h
 show wpAny _ A ((compTurn (.ListComp elt [⟨target,iter,ifs,0⟩] scope pos) 0 it acc env).onRaise (fun x=>do noteFrame x env;theTreesLotGoes x)) _ _ s
 refine wpAny_noted ?_
 rw [compTurn_list]
 refine Jx (JR (Jx (Jz (turn n s hI) (fun r s₁ h₁=>?_) fun _ _ h'=>h'.elim)))
 cases r with
 | none=>exact Jy h₁
 | some v =>
  refine Jx (Jz h₁ (fun _ s₁' h₁'=>?_) fun _ _ h'=>h'.elim)
  refine Jx (Jz h₁' (fun _ s₂ h₂=>Jx (Jz h₂ (fun ok s₃ h₃=>?_) fun _ _ h'=>h'.elim)) fun _ _ h'=>h'.elim)
  cases ok with
  | false=>exact Jy ⟨rfl,h₃⟩
  | true =>
   exact Jx (Jx (Jz h₃ (fun x s₄ h₄=>Jx (Jz h₄ (fun _ s₅ h₅=>Jy (Jy ⟨rfl,h₅⟩)) fun _ _ h'=>h'.elim)) fun _ _ h'=>h'.elim))
theorem wB {pins:List (Addr×Obj)}{GK : St}{H:Hp}{s:Shared}{E:Value->Shared->Prop}{tg elt iter:Expr}{ifs:List Expr}{scope:Scope}{g:TG}{ct:TT}{te:TE}{ts fr:List Str}{js:List Nat}
    {it:Addr} {fp:List Addr} {tn:Nat->Heap->Prop} {J:It} {Q:VK} {RR:Value->Addr->Result->Shared->Prop}
    (hc:X.calm=true) (hkind:scope.kind=.function) (hcell:∀y∈scope.names,y.2≠.cell) (hfree:∀y∈scope.names,y.2=.free->X.env.kindOf y.1=some .cell\/X.env.kindOf y.1=some .free)
    (hfr:hG X scope fr js) (htg:∀C fp s₁ H₁,PG (gJ X scope C (ts++fr) fp s₁ H₁) tg g) (hct:∀C fp s₁ H₁,yS (gJ X scope C (ts++fr) fp s₁ H₁) ifs ct) (hte:∀C fp s₁ H₁,PE (gJ X scope C (ts++fr) fp s₁ H₁) elt te)
    (I:Inv X pins GK H s) (T:Turn X.prog X.w X.K tg J fp it tn) (st:tn 0 s.heap) (hfp:∀b∈fp,iG X pins H b)
    (h:∀acc,H acc=none->wA J ts.length js g ct te acc GK H Q)
    (hRR:∀acc C H' s' m,Inv X pins GK H' s'->s'.heap.Ns C m->H' C=none->s.heap.objs.size<=C->Q (.ref acc) H'->RR (.ref acc) C (.ok .next) s') :
    wpAny (model X.prog X.w) X.A (newList []) (fun acc s₃=>wpAny (model X.prog X.w) X.A (newFunctionEnv scope X.env.globals (j3 X.env.cells scope.names []) [] X.env.qual none .none (some X.env)) (fun cenv s₄ =>
      codeAny (model X.prog X.w) X.A (.compStart (.ListComp elt [⟨tg,iter,ifs,0⟩] scope pos) 0 (.ref it) acc { cenv with scope:=relabel scope X.env }) (RR acc cenv.locals) s₄) E s₃) E s:=by
  have hf:∀y∈scope.names,y.2=.free->∃c,X.env.cells.lookup y.1=some c:=fun y hy e=>I.ok.has y.1 (hfree y hy e)
  have ag:∀x c,(j3 X.env.cells scope.names []).lookup x=some c->X.env.cells.lookup x=some c:=mj scope.names [] hf fun x c e=>by simp at e
  have hlt:∀b∈fp,b<s.heap.objs.size:=fun b hb=>by
    obtain⟨o,e,_⟩:=T.obj _ _ st b hb
    exact GU e
  refine JE (wpAny_newFunctionEnv hcell (by intro y hy;simp at hy) (fun h₁ hns₁ hsb₁=>?_) hkind)
  dsimp only at hns₁ hsb₁ ⊢
  generalize hH2:s.heap.push { cls:=.type "list",dict:=none,data:=.seq ([]:List Value).toArray }=G2 at hns₁ hsb₁ ⊢
  have hC:G2.objs.size=s.heap.objs.size+1:=by rw [<-hH2,Hc]
  have hDC:s.heap.objs.size≠G2.objs.size:=by rw [hC];exact G0 (HG _)
  have hCle:s.heap.objs.size<=G2.objs.size:=by rw [hC];exact HP _
  have below:∀b,b<s.heap.objs.size->b≠G2.objs.size/\b≠s.heap.objs.size:=fun b hb=>⟨by rw [hC];exact G0 (Hy hb),G0 hb⟩
  have old:∀b o,s.heap.get? b=some o->h₁.get? b=some o:=fun b o e=>hsb₁.extBut b o (below b (GU e)).1 (GV _ (hH2 ▸ GV _ e))
  have hacc:h₁.get? s.heap.objs.size=some { cls:=.type "list",data:=.seq ([]:List Value).toArray }:=hsb₁.extBut _ _ hDC (GV _ (hH2 ▸ GX _ rfl))
  have nD:H s.heap.objs.size=none:=I.aW.fresh (GQ _)
  have nC:H G2.objs.size=none:=I.aW.fresh hCle
  obtain⟨W,⟨m0,w0⟩,turn⟩:=h s.heap.objs.size nD
  generalize hXb:gJ X scope G2.objs.size (ts++fr) fp s H=Xb
  have Ib:∀tk,Inv Xb [] (nT ts.length js GK) (upd H s.heap.objs.size (.lst [])) { s with heap:=h₁,toks:=tk }:=by
    intro tk
    subst hXb
    refine⟨Ed I hkind hcell hf hCle hfp hlt,rfl,I.bare,Un.laid old (GQ _) nD,⟨_,hns₁,fun i x v e1 e2 e3=>?_⟩,fun x c e=>?_,?_,fun x c e=>?_,fun p hp=>absurd (show p∈([]:List (Addr×Obj)) from hp) (by simp),I.aW.laid old (GQ _) ⟨by show 0<=sizeLine;decide,[],_,.nil,hacc⟩,?_⟩
    . have hi:ts.length<=i:=by
        refine Nat.le_of_not_lt fun hi=>?_
        unfold nT at e2
        rw [HY (by simpa using hi),List.getElem?_replicate] at e2
        split at e2 <;> cases e2
      have e1':fr[i-ts.length]?=some x:=by
        have e1'':(ts++fr)[i]?=some x:=e1
        rw [IF hi] at e1''
        exact e1''
      unfold nT at e2
      rw [IF (by simpa using hi),IY,G8] at e2
      cases ej:js[i-ts.length]? with
      | none=>rw [ej] at e2;cases e2
      | some j =>
        rw [ej] at e2
        have e2':GK.getD j none=some v:=by simpa using e2
        obtain⟨q1,q2,q3⟩:=hfr.get e1' ej
        have e2'':GK[j]?=some (some v):=by
          rw [List.getD_eq_getElem?_getD] at e2'
          cases ez:GK[j]? with
          | none=>rw [ez] at e2';cases e2'
          | some z=>rw [ez] at e2';rw [show z=some v from e2']
        obtain⟨m,hn,hl⟩:=I.loc
        obtain⟨u,r,l⟩:=hl j x v q1 e2'' (by
          rcases q2 with q2 | q2
          . exact .inr (.inl q2)
          . exact .inr (.inr q2))
        refine⟨u,r,.inr ⟨ml q3,?_⟩⟩
        rcases l with ⟨l,_⟩ | ⟨_,c,lc,lv⟩
        . rcases q2 with q2 | q2 <;> (rw [l] at q2;cases q2)
        . obtain⟨c',hc'⟩:=qK (cells:=X.env.cells) scope.names [] (.inl (PySem.mem_of_lookup q3))
          have:=ag x c' hc'
          rw [lc] at this
          cases this
          obtain⟨o,ho,hd⟩:=lv
          exact⟨c,hc',o,old _ _ ho,hd⟩
    . obtain⟨v,o,ho,hd⟩:=I.cell x c (ag x c e)
      exact⟨v,o,old _ _ ho,hd⟩
    . show upd H s.heap.objs.size (.lst []) G2.objs.size=none
      rw [au hDC.symm];exact nC
    . obtain⟨v,o,ho,hd⟩:=I.cell x c (ag x c e)
      rw [au (G0 (GU ho))]
      exact I.fj x c (ag x c e)
    . show (nT ts.length js GK).length=(ts++fr).length
      unfold nT
      rw [GW,IY,GO,GW,hfr.len]
  have fpB:∀{H':Hp},(∀b∈fp,H' b=none)->∀b∈fp,iG Xb [] H' b:=fun {H'} hn b hb=>by
    subst hXb
    obtain⟨h1,h2,h3,h4,h5,h6⟩:=hfp b hb
    refine⟨hn b hb,(below b (hlt b hb)).1,fun z=>?_,.inl hb,fun x c e=>h5 x c (ag x c e),fun p hp=>absurd (show p∈([]:List (Addr×Obj)) from hp) (by simp)⟩
    rcases GS.mp (I.o7 b z) with z | z
    . exact h2 z
    . exact h3 z
  have fin:∀{GL : St} {H':Hp} {s':Shared},Inv Xb [] GL H' s'->Q (.ref s.heap.objs.size) H'->RR (.ref s.heap.objs.size) G2.objs.size (.ok .next) s':=fun {GL H' s'} Jb q=>by
    subst hXb
    obtain⟨m,hn,_⟩:=Jb.loc
    refine hRR _ _ H' s' m (I.ET (ch:=fp) Jb.os Jb.base Jb.aW Jb.bare fun b hb=>?_) hn Jb.free hCle q
    obtain⟨h1,h2,h3,h4,h5,h6⟩:=hfp b hb
    exact⟨h4,h2,h5,h6⟩
  have loop:∀tk,codeAny (model X.prog X.w) X.A (.compLoop (.ListComp elt [⟨tg,iter,ifs,0⟩] scope pos) 0 (.ref it) (.ref s.heap.objs.size) (compEnvC scope (j3 X.env.cells scope.names []) G2.objs.size X.env))
        (RR (.ref s.heap.objs.size) G2.objs.size) { s with heap:=h₁,toks:=tk }:=by
    intro tk
    refine lM (fun n s'=>∃i ys GL H',Inv Xb [] GL H' s'/\tn i s'.heap/\(∀b∈fp,H' b=none)/\W i n ys GL H') ?_ m0 ⟨0,[],_,_,Ib tk,T.keep _ _ _ st fun b hb o e=>old b o e,fun b hb=>?_,w0⟩
    . rintro n s3 ⟨i,ys,GL,H3,I3,st3,fr3,w3⟩
      have htg':=htg G2.objs.size fp s H
      have hct':=hct G2.objs.size fp s H
      have hte':=hte G2.objs.size fp s H
      rw [hXb] at htg' hct' hte'
      have eP:Xb.prog=X.prog:=by subst hXb;rfl
      have ew:Xb.w=X.w:=by subst hXb;rfl
      have eK:Xb.K=X.K:=by subst hXb;rfl
      have eA:Xb.A=X.A:=by subst hXb;rfl
      have ec:Xb.calm=true:=by subst hXb;exact hc
      have ee:Xb.env=compEnvC scope (j3 X.env.cells scope.names []) G2.objs.size X.env:=by subst hXb;rfl
      have ex:Xb.xe=fun _ _=>False:=by subst hXb;rfl
      rw [<-eP,<-ew,<-eA,<-ee]
      obtain⟨ha,hl,turn'⟩:=turn i n ys GL H3 w3
      rcases turn' with ⟨stop,q⟩ | ⟨go,N,hN,step⟩
      . have hd:=T.done Xb eP ew eK ec i [] s3 GL H3 (fun _ _=>False) I3 (fpB fr3) st3 stop
        rw [<-eP,<-ew] at hd
        refine Jz hd (fun r s4 hr4=>?_) fun _ _ z=>z
        obtain⟨hr,I4⟩:=hr4
        subst hr
        exact fin I4 q
      . have hd:=T.item Xb eP ew eK ec i [] s3 GL H3 (fun _ _=>False) I3 (fpB fr3) st3 go
        rw [<-eP,<-ew] at hd
        refine Jz hd (fun r s4 hr4=>?_) fun _ _ z=>z
        obtain⟨u,hr,h4⟩:=hr4
        subst hr
        refine Jz h4 (fun _ s5 ⟨x,H5,I5,r5,y5,st5,fr5⟩=>?_) fun _ _ z=>z
        have I5':=I5.pinned (fpB fr5) (T.obj _ _ st5)
        have keepT:∀{σ7:St} {H7:Hp} {s7:Shared},Inv Xb ([]++lU fp s5.heap) σ7 H7 s7->tn (i+1) s7.heap/\∀b∈fp,H7 b=none:=fun {σ7 H7 s7} I7=>by
          refine⟨T.keep _ _ _ st5 fun b hb o e=>(I7.pin (b,o) (Hn _ (Hn _ (iM hb e)))).1,fun b hb=>?_⟩
          obtain⟨o,e,d⟩:=T.obj _ _ st5 b hb
          exact (I7.pin (b,o) (Hn _ (Hn _ (iM hb e)))).2.1
        refine Jz (htg' _ s5 GL H5 x u _ I5' r5 (step x H5 y5)) (fun _ s6 ⟨τ6,H6,I6,q6⟩=>?_) (fun _ _ z=>by rw [ex] at z;exact z)
        refine Jz (hct' _ s6 τ6 H6 _ I6 q6) (fun ok s7 ⟨H7,I7,q7⟩=>?_) (fun _ _ z=>by rw [ex] at z;exact z)
        cases ok with
        | false =>
          have q7':N ys τ6 H7:=by rw [if_neg (by simp)] at q7;exact q7
          rw [if_neg (by simp)]
          obtain⟨m',hm,w7⟩:=hN _ _ _ q7'
          exact⟨m',hm,i+1,ys,τ6,H7,I7.i5,(keepT I7).1,(keepT I7).2,w7⟩
        | true =>
          rw [if_pos rfl] at q7 ⊢
          refine Jz (hte' _ s7 τ6 H7 _ I7 q7) (fun v s8 ⟨y,H8,I8,r8,ha8,n8⟩=>?_) (fun _ _ z=>by rw [ex] at z;exact z)
          refine Jz (fi (X:=Xb) _ s8 τ6 H8 (.ref s.heap.objs.size) [y] (.ref s.heap.objs.size) [v] (fun _ H9=>H9=upd H8 s.heap.objs.size (.lst (ys++[y]))) I8 rfl (.cons r8 .nil) ⟨_,ys,y,rfl,rfl,ha8,hl,rfl⟩) (fun _ s9 ⟨_,H9,I9,_,e9⟩=>?_) (fun _ _ z=>by rw [ex] at z;exact z)
          subst e9
          obtain⟨m',hm,w8⟩:=hN _ _ _ n8
          exact⟨m',hm,i+1,_,τ6,_,I9.i5,(keepT I9).1,(keepT I9).2,w8⟩
    . rw [au (G0 (hlt b hb))]
      exact (hfp b hb).1
  exact codeAny_compStart_list (loop _) (T.self _ 0 _ _ _ (T.keep _ _ _ st fun b hb o e=>old b o e) (loop _))
theorem Inv.yT {pins:List (Addr×Obj)}{GK : St}{H H':Hp}{s s':Shared}{C:Addr}{h':Heap}(I:Inv X pins GK H s){σ':St}(I':Inv X pins σ' H' s')(hC:H' C=none)(hle:s.heap.objs.size<=C)(hsb:Hk C s'.heap h') :
  Inv X pins σ' H' { s' with heap:=h' }:=by
 obtain⟨h1,h2,h3,h4,h5,h6⟩:=I.lT (H':=H') hle hC
 exact I'.turned (t':=s'.toks) (fun b o hb e=>hsb.extBut b o hb e) hC h2 h4 h5 h6
theorem de {tg elt iter:Expr}{ifs:List Expr}{scope:Scope}{wi:TI}{g:TG}{ct:TT}{te:TE}(ts fr:List Str)(js:List Nat)
  (hc:X.calm=true) (hi:PI X tg iter wi) (hkind:scope.kind=.function) (hcell:∀y∈scope.names,y.2≠.cell) (hnames:∀y∈scope.names,y.2=.local->scope.names.lookup y.1=some .local)
  (hfree0:∀y∈scope.names,y.2=.free->y.1∈fr) (hfr:hG X scope fr js)
  (htg:∀C fp s₁ H₁,PG (gJ X scope C (ts++fr) fp s₁ H₁) tg g) (hct:∀C fp s₁ H₁,yS (gJ X scope C (ts++fr) fp s₁ H₁) ifs ct) (hte:∀C fp s₁ H₁,PE (gJ X scope C (ts++fr) fp s₁ H₁) elt te)
  (hs:∀x,foldedSetIterable iter X.env x=pure x:=by intro _;rfl):PE X (.ListComp elt [⟨tg,iter,ifs,0⟩] scope pos) (Fs ts.length js wi g ct te):=by
 have hfree:∀y∈scope.names,y.2=.free->X.env.kindOf y.1=some .cell\/X.env.kindOf y.1=some .free:=fun y hy e=>hfr.mem (hfree0 y hy e)
 intro pins s GK H Q I h
 rw [eval_ListComp]
 refine J7 (use:=none) rfl hs (pB fun y hy e=>I.ok.has y.1 (hfree y hy e)) hkind hnames (bg (hi pins s GK H _ I h) fun xv s1 h1=>bg h1 fun itv s2 h2=>?_)
 obtain⟨it,fp,tn,J,H2,e,I2,T,st2,f2,hW⟩:=h2
 subst e
 refine wB (RR:=fun acc C=>compPost (model X.prog X.w) X.A X.xe none (EP X pins GK Q) acc C) hc hkind hcell hfree hfr htg hct hte I2 T st2 f2 hW ?_
 intro acc C H' s' m I' hn hC hle q
 exact⟨m,hn,fun h' hsb=>⟨.ref acc,H',I2.yT I' hC hle hsb,rfl,q⟩⟩
theorem oE {tg elt iter:Expr}{ifs:List Expr}{scope:Scope}{wi:TI}{g:TG}{ct:TT}{te:TE}{i:Nat}{y:Str}{py spos:Pos}(ts fr:List Str)(js:List Nat)
  (hsw:swapsWith (.ListComp elt [⟨tg,iter,ifs,0⟩] scope pos) (some (.Name y py)) spos.line X.env=pure true) (hN:X.N.Nodup) (hi0:X.N[i]?=some y) (hx:X.env.scope.names.lookup y=some .local)
  (hc:X.calm=true) (hi:PI X tg iter wi) (hkind:scope.kind=.function) (hcell:∀y∈scope.names,y.2≠.cell) (hnames:∀y∈scope.names,y.2=.local->scope.names.lookup y.1=some .local)
  (hfree0:∀y∈scope.names,y.2=.free->y.1∈fr) (hfr:hG X scope fr js)
  (htg:∀C fp s₁ H₁,PG (gJ X scope C (ts++fr) fp s₁ H₁) tg g) (hct:∀C fp s₁ H₁,yS (gJ X scope C (ts++fr) fp s₁ H₁) ifs ct) (hte:∀C fp s₁ H₁,PE (gJ X scope C (ts++fr) fp s₁ H₁) elt te)
  (hs:∀x,foldedSetIterable iter X.env x=pure x:=by intro _;rfl):PS X (.Assign [.Name y py] (.ListComp elt [⟨tg,iter,ifs,0⟩] scope pos) spos) (xp (Fs ts.length js wi g ct te) (tR i)):=by
 have hfree:∀y∈scope.names,y.2=.free->X.env.kindOf y.1=some .cell\/X.env.kindOf y.1=some .free:=fun y hy e=>hfr.mem (hfree0 y hy e)
 intro pins s GK H D I h
 rw [exec_Assign_Name_used _ _ _ _ hsw]
 refine Jx (JR (Jx ?_))
 show wpAny _ X.A (do let _ <-comprehension (.ListComp elt [⟨tg,iter,ifs,0⟩] scope pos) scope X.env _ (newList []) false (eval iter X.env) (some (assign (.Name y py) X.env))) _ _ s
 refine Jx (Jz (J7 (use:=some (assign (.Name y py) X.env)) (Q:=fun _ s'=>SP X pins D .next s') rfl hs (pB fun y hy e=>I.ok.has y.1 (hfree y hy e)) hkind hnames
  (bg (hi pins s GK H _ I h) fun xv s1 h1=>bg h1 fun itv s2 h2=>?_)) (fun _ s' hq=>Jy (Jy hq)) fun _ _ e=>e)
 obtain⟨it,fp,tn,J,H2,e,I2,T,st2,f2,hW⟩:=h2
 subst e
 refine wB (Q:=fun v H'=>D.nx (GK.set i (some v)) H') (RR:=fun acc C=>compPost (model X.prog X.w) X.A X.xe (some (assign (.Name y py) X.env)) (fun _ s'=>SP X pins D .next s') acc C) hc hkind hcell hfree hfr htg hct hte I2 T st2 f2 hW ?_
 intro acc C H' s' m I' hn hC hle q
 show wpAny _ X.A (assign (.Name y py) X.env (.ref acc)) _ _ _
 refine wpAny_assign_Name (rT I' hN hi0 (.inl hx) (v:=.ref acc) rfl (fun s'' I'' hch=>?_) (.inr hx))
 obtain⟨h1,h2,h3,h4,h5,h6⟩:=I2.lT (H':=H') hle hC
 obtain⟨a,hsb,ha⟩:=hch
 refine⟨m,hn.sameBut hsb ?_,fun h' hsb'=>⟨_,H',I2.yT I'' hC hle hsb',q⟩⟩
 rcases ha with ha | ha
 ·rw [ha];exact h2
 ·exact fun z=>h5 y a ha z.symm
end
theorem ng {K:GP}{a acc:Addr}{xs:List V}{n:Nat}{js:List Nat}{g:TG}{ct:TT}{te:TE}{GK : St}{H1:Hp}{Q:VK}(Pv:Nat->List V->St->Hp->Prop)(h0:Pv 0 [] (nT n js GK) (upd H1 acc (.lst [])))
  (hl:∀i ys GL H,i<=xs.length->Pv i ys GL H->aU K H a xs/\H acc=some (.lst ys)/\ys.length<sizeLine)
  (hs:∀i x ys GL H,xs[i]?=some x->Pv i ys GL H->g x GL H fun τ1 H4=>ct τ1 H4 fun b H5=>if b=true then te τ1 H5 fun y H6=>H6 acc=some (.lst ys)/\Pv (i+1) (ys++[y]) τ1 (upd H6 acc (.lst (ys++[y]))) else Pv (i+1) ys τ1 H5)
  (hd:∀ys GL H,Pv xs.length ys GL H->Q (.ref acc) H) :
  wA (DF K a) n js g ct te acc GK H1 Q:=by
 refine⟨fun i m ys GL H=>m=xs.length-i/\i<=xs.length/\Pv i ys GL H,⟨xs.length,by simp,Hg _,h0⟩,?_⟩
 rintro i m ys GL H ⟨rfl,hi,p⟩
 obtain⟨q,q2,q3⟩:=hl i ys GL H hi p
 refine⟨q2,q3,?_⟩
 by_cases hlt:i<xs.length
 ·refine .inr ⟨⟨xs,xs[i],q,by simp [hlt]⟩,Pv (i+1),fun ys' τ' H' p'=>⟨xs.length-(i+1),by omega,rfl,hlt,p'⟩,fun x H' y=>?_⟩
  obtain⟨e,y⟩:=y
  subst e
  exact hs i x ys GL _ (y xs q) p
 ·have e:i=xs.length:=by omega
  subst e
  exact .inl ⟨⟨xs,q,GQ _⟩,hd ys GL H p⟩
theorem jd {K:GP}{a acc:Addr}{xs:List V}{n:Nat}{js:List Nat}{g:TG}{ct:TT}{te:TE}{GK : St}{H1:Hp}{Q:VK}(Pv:Nat->List V->St->Hp->Prop)(h0:Pv 0 [] (nT n js GK) (upd H1 acc (.lst [])))
  (hl:∀i ys GL H,i<=xs.length->Pv i ys GL H->av K H a xs/\H acc=some (.lst ys)/\ys.length<sizeLine)
  (hs:∀i x ys GL H,xs[i]?=some x->Pv i ys GL H->g x GL H fun τ1 H4=>ct τ1 H4 fun b H5=>if b=true then te τ1 H5 fun y H6=>H6 acc=some (.lst ys)/\Pv (i+1) (ys++[y]) τ1 (upd H6 acc (.lst (ys++[y]))) else Pv (i+1) ys τ1 H5)
  (hd:∀ys GL H,Pv xs.length ys GL H->Q (.ref acc) H) :
  wA (wj K a) n js g ct te acc GK H1 Q:=by
 refine⟨fun i m ys GL H=>m=xs.length-i/\i<=xs.length/\Pv i ys GL H,⟨xs.length,by simp,Hg _,h0⟩,?_⟩
 rintro i m ys GL H ⟨rfl,hi,p⟩
 obtain⟨q,q2,q3⟩:=hl i ys GL H hi p
 refine⟨q2,q3,?_⟩
 by_cases hlt:i<xs.length
 ·refine .inr ⟨⟨xs,xs[i],q,by simp [hlt]⟩,Pv (i+1),fun ys' τ' H' p'=>⟨xs.length-(i+1),by omega,rfl,hlt,p'⟩,fun x H' y=>?_⟩
  obtain⟨e,y⟩:=y
  subst e
  exact hs i x ys GL _ (y xs q) p
 ·have e:i=xs.length:=by omega
  subst e
  exact .inl ⟨⟨xs,q,GQ _⟩,hd ys GL H p⟩
theorem ko {lo:Int}{k:Nat}{acc:Addr}{n:Nat}{js:List Nat}{g:TG}{ct:TT}{te:TE}{GK : St}{H1:Hp}{Q:VK}(Pv:Nat->List V->St->Hp->Prop)(h0:Pv 0 [] (nT n js GK) (upd H1 acc (.lst [])))
  (hl:∀i ys GL H,i<=k->Pv i ys GL H->H acc=some (.lst ys)/\ys.length<sizeLine)
  (hs:∀i ys GL H,i<k->Pv i ys GL H->g (.int (lo+i)) GL H fun τ1 H4=>ct τ1 H4 fun b H5=>if b=true then te τ1 H5 fun y H6=>H6 acc=some (.lst ys)/\Pv (i+1) (ys++[y]) τ1 (upd H6 acc (.lst (ys++[y]))) else Pv (i+1) ys τ1 H5)
  (hd:∀ys GL H,Pv k ys GL H->Q (.ref acc) H) :
  wA (ug lo k) n js g ct te acc GK H1 Q:=by
 refine⟨fun i m ys GL H=>m=k-i/\i<=k/\Pv i ys GL H,⟨k,by simp,Hg _,h0⟩,?_⟩
 rintro i m ys GL H ⟨rfl,hi,p⟩
 obtain⟨q2,q3⟩:=hl i ys GL H hi p
 refine⟨q2,q3,?_⟩
 by_cases hlt:i<k
 ·refine .inr ⟨hlt,Pv (i+1),fun ys' τ' H' p'=>⟨k-(i+1),by omega,rfl,hlt,p'⟩,fun x H' y=>?_⟩
  obtain⟨e,y⟩:=y
  subst e y
  exact hs i ys GL _ hlt p
 ·have e:i=k:=by omega
  subst e
  exact .inl ⟨GQ _,hd ys GL H p⟩
section
variable {X:Cx}
theorem Ef:dX X (compareOp .Is) (fun x y H Q=>∃c d,x=.bl c/\y=.bl d/\Q (.bl (c == d)) H):=by
 intro pins s GK H x y v u Q I rx ry h
 obtain⟨c,d,rfl,rfl,q⟩:=h
 cases (show v=Value.bool c from rx)
 cases (show u=Value.bool d from ry)
 refine wpAny_is_plain rfl ⟨.bl (c == d),H,I,?_,q⟩
 cases c <;> cases d <;> rfl
theorem yU:dX X (compareOp .IsNot) (fun x y H Q=>∃c d,x=.bl c/\y=.bl d/\Q (.bl (!(c == d))) H):=by
 intro pins s GK H x y v u Q I rx ry h
 obtain⟨c,d,rfl,rfl,q⟩:=h
 cases (show v=Value.bool c from rx)
 cases (show u=Value.bool d from ry)
 refine wpAny_isNot_plain rfl ⟨.bl (!(c == d)),H,I,?_,q⟩
 cases c <;> cases d <;> rfl
end
def Gd (t:TS):TS:=fun D GK H=>∃M:St->Hp->Prop,t { D with nx:=M } GK H/\∀σ' H',M σ' H'->D.nx σ' H'
theorem cS {X:Cx}{st:Stmt}{t:TS}(h:PS X st t):PS X st (Gd t):=by
 intro pins s GK H D I q
 obtain⟨M,q,hM⟩:=q
 refine bg (h pins s GK H _ I q) fun f s' hs=>?_
 cases f with
 | next =>
  obtain⟨σ',H',I',m⟩:=hs
  exact⟨σ',H',I',hM _ _ m⟩
 | brk=>exact hs
 | cont=>exact hs
 | ret u=>exact hs
theorem dh {m:Int}(h0:0<m)(h1:m<1073741824):m.natAbs.log2<9000:=by
 have h:m.natAbs.log2<30:=(Nat.log2_lt (by omega)).mpr (by omega)
 omega
theorem j4 {X:Cx}{K:GP}{es:List Expr}{k:Nat}{t:rV}{n:Nat}{pos:Pos}(hK:X.K=K)(h:PG X (.Tuple es k pos) (Ai X.K n t)):PG X (.Tuple es k pos) (Ai K n t):=by
 subst hK
 exact h
section
variable {prog:Program}{w:World}{A:Around}{E:Value->Shared->Prop}{s:Shared}
theorem j5 {j t:Addr}{n:Nat}{its:Array Value}{x:Value}{Q:Value->Shared->Prop}(hj:s.heap.IsTupleIter j t n)(ht:s.heap.IsTuple t its)(hx:its[n]?=some x)
  (hQ:∀g,g.IsTupleIter j t (n+1)->Hk j s.heap g->Q x { s with heap:=g }):wpAny (model prog w) A (Builtin.SmallTypes.nextOf (.ref j)) Q E s:=by
 obtain⟨ob,eo,ec,ed⟩:=id hj
 obtain⟨ot,et,_,k,ek⟩:=ht
 unfold Builtin.SmallTypes.nextOf
 refine Jx (wpAny_callSpecial?_slot (name:=Str.ofString "__next__") hj.typeIs F.slot_tuple_iterator_next (JC F.slot_tuple_iterator_next hj.typeIs F.entry_tuple_iterator_next ?_ (F.args_tuple_iterator_next_1 _)))
 show wpAny _ _ (field (.ref j) 0 >>= _) _ _ s
 refine Jx (JA eo ed (x:=.ref t) rfl ?_)
 show wpAny _ _ (if (Value.ref t == Value.none)=true then _ else _) _ _ s
 refine (if_neg (c:=(Value.ref t == Value.none)=true) He) ▸ ?_
 show wpAny _ _ (field (.ref j) 1 >>= _) _ _ s
 refine Jx (JA eo ed (x:=.int n 0) rfl (Jx (JD et ek ?_)))
 simp only [hx,HZ]
 refine Jx (JL eo ed (by simp) (Jy ⟨x,rfl,Jy (hQ _ ⟨_,HJ _ eo (Obj.isFreed_of_fields (Obj.data_mapFields ed _)),(Obj.cls_mapFields ..).trans ec,?_⟩ (Hk.update ..))⟩))
 rw [Obj.data_mapFields ed];simp [rawInt]
theorem qM {j t:Addr}{n:Nat}{its:Array Value}{Q:Value->Shared->Prop}(ha:A.handled=none)(hj:s.heap.IsTupleIter j t n)(ht:s.heap.IsTuple t its)(hx:its[n]?=none)
    (hE:∀g e,Heap.ExtBut j s.heap g->(∃o,g.get? e=some o/\o.cls=.type "StopIteration")->E (.ref e) { s with heap:=g }):wpAny (model prog w) A (Builtin.SmallTypes.nextOf (.ref j)) Q E s:=by
  obtain⟨ob,eo,ec,ed⟩:=id hj
  obtain⟨ot,et,_,k,ek⟩:=ht
  unfold Builtin.SmallTypes.nextOf
  refine Jx (wpAny_callSpecial?_slot (name:=Str.ofString "__next__") hj.typeIs F.slot_tuple_iterator_next (JC F.slot_tuple_iterator_next hj.typeIs F.entry_tuple_iterator_next ?_ (F.args_tuple_iterator_next_1 _)))
  show wpAny _ _ (field (.ref j) 0 >>= _) _ _ s
  refine Jx (JA eo ed (x:=.ref t) rfl ?_)
  show wpAny _ _ (if (Value.ref t == Value.none)=true then _ else _) _ _ s
  refine (if_neg (c:=(Value.ref t == Value.none)=true) He) ▸ ?_
  show wpAny _ _ (field (.ref j) 1 >>= _) _ _ s
  refine Jx (JA eo ed (x:=.int n 0) rfl (Jx (JD et ek ?_)))
  simp only [hx,HZ]
  refine Jx (JF (Jx (JL eo ed (by simp) ?_)))
  show wpAny _ _ (newExc (.type "StopIteration") [] >>= fun _=>_) _ _ _
  refine Jx ?_
  simp only [newTuple,newExc]
  refine Jx (JE (Jx (m:=firstArgMember _ _) (wpAny_of_eq (a:=Value.none) (by first | rfl | (simp only [firstArgMember];rfl)) (JE ?_ (by size_fits)))) (by size_fits))
  simp only [raiseNew]
  refine Jx (wpAny_handled (by
    first | rw [show A.in1.handled=none from ha] | rw [ha]
    exact Jx (Jy (wpAny_throw (hE _ _ (((Hk.update ..).extBut.push _).push _) ⟨_,GX _ rfl,rfl⟩)))))
structure wC (z p q j k a b:Addr):Prop where
 pz:p≠z
 qz:q≠z
 jz:j≠z
 kz:k≠z
 pq:p≠q
 pj:p≠j
 pk:p≠k
 qj:q≠j
 qk:q≠k
 jk:j≠k
 az:a≠z
 aq:a≠q
 aj:a≠j
 ak:a≠k
 bz:b≠z
 bq:b≠q
 bj:b≠j
 bk:b≠k
theorem eG {h g:Heap}{a:Addr}{xs:Array Value}(x:h.IsTuple a xs)(k:∀o,h.get? a=some o->g.get? a=some o):g.IsTuple a xs:=by
 obtain⟨o,e,r⟩:=x
 exact⟨o,k o e,r⟩
theorem CP {z p q j k a b:Addr}{m n:Nat}{xs ys:Array Value}{x y u v:Value}{Q:Value->Shared->Prop}(D:wC z p q j k a b)
  (gz:IsZip s.heap z p q .none) (gp:IsPair s.heap p (.ref j) (.ref k)) (gq:IsPair s.heap q u v)
  (gj:s.heap.IsTupleIter j a m) (gk:s.heap.IsTupleIter k b n) (ga:s.heap.IsTuple a xs) (gb:s.heap.IsTuple b ys) (hx:xs[m]?=some x) (hy:ys[n]?=some y)
  (hQ:∀g,IsZip g z p q (rawInt s.heap.objs.size)->IsPair g q x y->g.IsTupleIter j a (m+1)->g.IsTupleIter k b (n+1)->IsPair g s.heap.objs.size x y->g.objs.size=s.heap.objs.size+1 ->
   (∀c o,c≠z->c≠q->c≠j->c≠k->s.heap.get? c=some o->g.get? c=some o)->Q (.ref s.heap.objs.size) { s with heap:=g }) :
  wpAny (model prog w) A (Builtin.«zip.__next__» ⟨[.ref z],[]⟩) (fun fin s'=>∃v,fin=.done (.ret v)/\Q v s') E s:=by
 show wpAny _ _ (field (.ref z) 2 >>= fun _=>_) _ _ _
 refine Jx (JA gz rfl (x:=.bool false) rfl ?_)
 show wpAny _ _ (field (.ref z) 3 >>= fun _=>_) _ _ _
 refine Jx (JA gz rfl (x:=.ref p) rfl (Jx (JD gp rfl ?_)))
 show wpAny _ _ (Builtin.SmallTypes.ownedTupleIsFree (.ref z) >>= fun _=>_) _ _ _
 refine Jx ?_
 unfold Builtin.SmallTypes.ownedTupleIsFree
 refine Jx (JA gz rfl (x:=.none) rfl (Jy ?_))
 simp only [if_true]
 refine Jx (JF (Jx (JA gz rfl (x:=.ref q) rfl (Jx (JG gz (by simp) fun g1 gz1 t1=>?_)))))
 replace gz1:IsZip g1 z p q .ellipsis:=gz1
 refine Jx ?_
 simp only [HS,Ir,IZ,I0]
 refine Jx (Jx (JM ?_))
 show wpAny _ _ (Builtin.SmallTypes.nextOf (.ref j) >>= fun _=>_) _ _ _
 refine Jx (j5 (gj.extBut t1.extBut D.jz) (eG ga fun o e=>t1.extBut _ _ D.az e) hx fun g2 gj2 t2=>Jy ?_)
 have gq2:IsPair g2 q u v:=t2.extBut _ _ D.qj (t1.extBut _ _ D.qz gq)
 refine Jx (JD gq2 rfl (Jx (J5 gq2 fun g3 gq3 t3=>?_)))
 replace gq3:IsPair g3 q x v:=gq3
 refine Jx (JQ (Jy (Jx (Jx (JM ?_)))))
 show wpAny _ _ (Builtin.SmallTypes.nextOf (.ref k) >>= fun _=>_) _ _ _
 refine Jx (j5 (((gk.extBut t1.extBut D.kz).extBut t2.extBut D.jk.symm).extBut t3.extBut D.qk.symm) (eG gb fun o e=>t3.extBut _ _ D.bq (t2.extBut _ _ D.bj (t1.extBut _ _ D.bz e))) hy fun g4 gk4 t4=>Jy ?_)
 have gq4:IsPair g4 q x v:=t4.extBut _ _ D.qk gq3
 refine Jx (JD gq4 rfl (Jx (J5 gq4 fun g5 gq5 t5=>?_)))
 replace gq5:IsPair g5 q x y:=gq5
 refine Jx (JQ (Jy (Jy (Jx (JD gq5 rfl (Jx (wpAny_newTuple ?_)))))))
 have ez:g5.objs.size=s.heap.objs.size:=by rw [t5.1,t4.1,t3.1,t2.1,t1.1]
 have gz5:IsZip g5 z p q .ellipsis:=t5.extBut _ _ D.qz.symm (t4.extBut _ _ D.kz.symm (t3.extBut _ _ D.qz.symm (t2.extBut _ _ D.jz.symm gz1)))
 have k5:∀c o,c≠z->c≠q->c≠j->c≠k->s.heap.get? c=some o->g5.get? c=some o:=fun c o c1 c2 c3 c4 e=>t5.extBut _ _ c2 (t4.extBut _ _ c4 (t3.extBut _ _ c2 (t2.extBut _ _ c3 (t1.extBut _ _ c1 e))))
 have gj5:g5.IsTupleIter j a (m+1):=((gj2.extBut t3.extBut D.qj.symm).extBut t4.extBut D.jk).extBut t5.extBut D.qj.symm
 have gk5:g5.IsTupleIter k b (n+1):=gk4.extBut t5.extBut D.qk.symm
 have lz:z<g5.objs.size:=GU gz5
 show wpAny _ _ (Builtin.SmallTypes.ownedTupleHandOut (.ref z) (.ref g5.objs.size) >>= fun _=>_) _ _ _
 refine Jx ?_
 unfold Builtin.SmallTypes.ownedTupleHandOut
 have gz6:IsZip (g5.push { cls:=.type "tuple",data:=.seq #[x,y] }) z p q .ellipsis:=GV _ gz5
 refine Jx (JG gz6 (by simp) fun g7 gz7 t7=>?_)
 replace gz7:IsZip g7 z p q (rawInt g5.objs.size):=gz7
 refine JG gz7 (by simp) fun g8 gz8 t8=>?_
 replace gz8:IsZip g8 z p q (rawInt g5.objs.size):=gz8
 have up:∀c o,c≠z->g5.get? c=some o->g8.get? c=some o:=fun c o c1 e=>t8.extBut _ _ c1 (t7.extBut _ _ c1 (GV _ e))
 have gT:IsPair g8 g5.objs.size x y:=t8.extBut _ _ (HE lz) (t7.extBut _ _ (HE lz) (GX _ rfl))
 have e8:g8.objs.size=g5.objs.size+1:=by rw [t8.1,t7.1,Hc]
 rw [ez] at gz8 gT e8
 refine Jy ⟨_,rfl,?_⟩
 show Q (.ref g5.objs.size) _
 rw [ez]
 refine hQ g8 gz8 (up _ _ D.qz gq5) ?_ ?_ gT e8 fun c o c1 c2 c3 c4 e=>up c o c1 (k5 c o c1 c2 c3 c4 e)
 ·obtain⟨o,e,r⟩:=gj5
  exact⟨o,up _ _ D.jz e,r⟩
 ·obtain⟨o,e,r⟩:=gk5
  exact⟨o,up _ _ D.kz e,r⟩
theorem Eg {z p q j k a b:Addr}{m n:Nat}{xs ys:Array Value}{u v:Value}{Q:Fin->Shared->Prop}(ha:A.handled=none)(D:wC z p q j k a b)
  (gz:IsZip s.heap z p q .none) (gp:IsPair s.heap p (.ref j) (.ref k)) (gq:IsPair s.heap q u v)
  (gj:s.heap.IsTupleIter j a m) (gk:s.heap.IsTupleIter k b n) (ga:s.heap.IsTuple a xs) (gb:s.heap.IsTuple b ys) (hend:xs[m]?=none\/ys[n]?=none)
  (hE:∀g e,(∀c o,c≠z->c≠q->c≠j->c≠k->s.heap.get? c=some o->g.get? c=some o)->(∃o,g.get? e=some o/\o.cls=.type "StopIteration")->E (.ref e) { s with heap:=g }) :
  wpAny (model prog w) A (Builtin.«zip.__next__» ⟨[.ref z],[]⟩) Q E s:=by
 show wpAny _ _ (field (.ref z) 2 >>= fun _=>_) _ _ _
 refine Jx (JA gz rfl (x:=.bool false) rfl ?_)
 show wpAny _ _ (field (.ref z) 3 >>= fun _=>_) _ _ _
 refine Jx (JA gz rfl (x:=.ref p) rfl (Jx (JD gp rfl ?_)))
 show wpAny _ _ (Builtin.SmallTypes.ownedTupleIsFree (.ref z) >>= fun _=>_) _ _ _
 refine Jx ?_
 unfold Builtin.SmallTypes.ownedTupleIsFree
 refine Jx (JA gz rfl (x:=.none) rfl (Jy ?_))
 simp only [if_true]
 refine Jx (JF (Jx (JA gz rfl (x:=.ref q) rfl (Jx (JG gz (by simp) fun g1 gz1 t1=>?_)))))
 replace gz1:IsZip g1 z p q .ellipsis:=gz1
 refine Jx ?_
 simp only [HS,Ir,IZ,I0]
 refine Jx (Jx (JM ?_))
 show wpAny _ _ (Builtin.SmallTypes.nextOf (.ref j) >>= fun _=>_) _ _ _
 cases hx:xs[m]? with
 | none =>
  refine Jx (qM ha (gj.extBut t1.extBut D.jz) (eG ga fun o e=>t1.extBut _ _ D.az e) hx fun g2 e t2 he=>?_)
  obtain⟨oe,eoe,ce⟩:=he
  have gz2:IsZip g2 z p q .ellipsis:=t2 _ _ D.jz.symm gz1
  have ne:e≠z:=fun x=>by subst x;rw [gz2] at eoe;cases eoe;simp at ce
  exact JG gz2 (by simp) fun g3 _ t3=>hE g3 e (fun c o c1 _ c3 _ x=>t3.extBut _ _ c1 (t2 _ _ c3 (t1.extBut _ _ c1 x))) ⟨oe,t3.extBut _ _ ne eoe,ce⟩
 | some x =>
  have hy:ys[n]?=none:=hend.elim (fun h=>by rw [hx] at h;cases h) id
  refine Jx (j5 (gj.extBut t1.extBut D.jz) (eG ga fun o e=>t1.extBut _ _ D.az e) hx fun g2 gj2 t2=>Jy ?_)
  have gq2:IsPair g2 q u v:=t2.extBut _ _ D.qj (t1.extBut _ _ D.qz gq)
  refine Jx (JD gq2 rfl (Jx (J5 gq2 fun g3 gq3 t3=>?_)))
  refine Jx (JQ (Jy (Jx (Jx (JM ?_)))))
  show wpAny _ _ (Builtin.SmallTypes.nextOf (.ref k) >>= fun _=>_) _ _ _
  refine Jx (qM ha (((gk.extBut t1.extBut D.kz).extBut t2.extBut D.jk.symm).extBut t3.extBut D.qk.symm) (eG gb fun o e=>t3.extBut _ _ D.bq (t2.extBut _ _ D.bj (t1.extBut _ _ D.bz e))) hy fun g4 e t4 he=>?_)
  obtain⟨oe,eoe,ce⟩:=he
  have gz4:IsZip g4 z p q .ellipsis:=t4 _ _ D.kz.symm (t3.extBut _ _ D.qz.symm (t2.extBut _ _ D.jz.symm gz1))
  have ne:e≠z:=fun x=>by subst x;rw [gz4] at eoe;cases eoe;simp at ce
  exact JG gz4 (by simp) fun g5 _ t5=>hE g5 e (fun c o c1 c2 c3 c4 x=>t5.extBut _ _ c1 (t4 _ _ c4 (t3.extBut _ _ c2 (t2.extBut _ _ c3 (t1.extBut _ _ c1 x))))) ⟨oe,t5.extBut _ _ ne eoe,ce⟩
theorem CQ {z p q j k a b:Addr}{m n:Nat}{xs ys:Array Value}{x y u v:Value}{Q:Option Value->Shared->Prop}(D:wC z p q j k a b)
  (gz:IsZip s.heap z p q .none) (gp:IsPair s.heap p (.ref j) (.ref k)) (gq:IsPair s.heap q u v)
  (gj:s.heap.IsTupleIter j a m) (gk:s.heap.IsTupleIter k b n) (ga:s.heap.IsTuple a xs) (gb:s.heap.IsTuple b ys) (hx:xs[m]?=some x) (hy:ys[n]?=some y)
  (hQ:∀g,IsZip g z p q (rawInt s.heap.objs.size)->IsPair g q x y->g.IsTupleIter j a (m+1)->g.IsTupleIter k b (n+1)->IsPair g s.heap.objs.size x y->g.objs.size=s.heap.objs.size+1 ->
   (∀c o,c≠z->c≠q->c≠j->c≠k->s.heap.get? c=some o->g.get? c=some o)->Q (some (.ref s.heap.objs.size)) { s with heap:=g }) :
  wpAny (model prog w) A (pyNext (.ref z)) Q E s:=by
 have ty:s.TypeIs (.ref z) "zip" := ⟨_,gz,rfl⟩
 unfold pyNext
 exact Jx (JI (wpAny_callSpecial?_slot (name:=Str.ofString "__next__") ty F.slot_zip_next (JC F.slot_zip_next ty F.entry_zip_next
   (CP D gz gp gq gj gk ga gb hx hy fun g a1 a2 a3 a4 a5 a6 a7=>Jy (hQ g a1 a2 a3 a4 a5 a6 a7)) (F.args_zip_next_1 _))))
theorem CS {z p q j k a b:Addr}{m n:Nat}{xs ys:Array Value}{u v:Value}{Q:Option Value->Shared->Prop}(ha:A.handled=none)(D:wC z p q j k a b)
  (gz:IsZip s.heap z p q .none) (gp:IsPair s.heap p (.ref j) (.ref k)) (gq:IsPair s.heap q u v)
  (gj:s.heap.IsTupleIter j a m) (gk:s.heap.IsTupleIter k b n) (ga:s.heap.IsTuple a xs) (gb:s.heap.IsTuple b ys) (hend:xs[m]?=none\/ys[n]?=none)
  (hQ:∀g,(∀c o,c≠z->c≠q->c≠j->c≠k->s.heap.get? c=some o->g.get? c=some o)->Q none { s with heap:=g }):wpAny (model prog w) A (pyNext (.ref z)) Q E s:=by
 have ty:s.TypeIs (.ref z) "zip" := ⟨_,gz,rfl⟩
 unfold pyNext
 refine Jx (JI (wpAny_callSpecial?_slot (name:=Str.ofString "__next__") ty F.slot_zip_next (JC F.slot_zip_next ty F.entry_zip_next
   (Eg ha D gz gp gq gj gk ga gb hend fun g e hk he=>?_) (F.args_zip_next_1 _))))
 obtain⟨o,eo,ec⟩:=he
 exact Jx (JS (T := "StopIteration") (b:=true) ⟨o,eo,ec⟩ isSubtype_stop (Jy (hQ _ hk)))
abbrev pC (h:Heap)(a:Addr):Heap:=h.push { cls:=.type "tuple_iterator",data:=.fields #[.ref a,.int 0 0] }
abbrev pD (h:Heap)(a b:Addr):Heap:=(pC h a).push { cls:=.type "tuple_iterator",data:=.fields #[.ref b,.int 0 0] }
abbrev Cd (h:Heap)(a b:Addr):Heap:=(pD h a b).push { cls:=.type "tuple",data:=.seq #[.ref h.objs.size,.ref (pC h a).objs.size] }
abbrev Ce (h:Heap)(a b:Addr):Heap:=(Cd h a b).push { cls:=.type "tuple",data:=.seq #[.none,.none] }
abbrev wF (h:Heap)(a b:Addr):Heap:=(Ce h a b).push { cls:=.type "zip",data:=.fields #[.none,.bool false,.bool false,.ref (pD h a b).objs.size,.ref (Cd h a b).objs.size] }
theorem Eh (a b:Addr) (xs ys:Array Value):Meets (Builtin.«zip.__new__» ⟨[.type "zip",.ref a,.ref b],[]⟩) (fun _ R s=>s.heap.IsTuple a xs/\s.heap.IsTuple b ys /\
   R (.ok (.ret (.ref (Ce s.heap a b).objs.size))) { s with heap:=wF s.heap a b }) :=
 .of_wp fun P w' A' R' s' hh=>by
  obtain⟨hp,g,d,tk,os⟩:=s'
  obtain⟨ga,gb,hh⟩:=hh
  have hsub:=sub_zip
  have la:II (IJ ⟨hp,g,d,tk,os⟩) a xs:=ga
  have lb:II (IJ ⟨pC hp a,g,d,tk,os⟩) b ys:=eG gb fun o e=>GV _ e
  wp_walk using JO la,JO lb
  exact⟨_,rfl,hh⟩
theorem CT {a b:Addr}{xs ys:Array Value}{Q:Value->Shared->Prop}(ga:s.heap.IsTuple a xs)(gb:s.heap.IsTuple b ys)
  (h:∀g,IsZip g (s.heap.objs.size+4) (s.heap.objs.size+2) (s.heap.objs.size+3) .none->IsPair g (s.heap.objs.size+2) (.ref s.heap.objs.size) (.ref (s.heap.objs.size+1)) ->
   IsPair g (s.heap.objs.size+3) .none .none->g.IsTupleIter s.heap.objs.size a 0->g.IsTupleIter (s.heap.objs.size+1) b 0 ->
   (∀c o,s.heap.get? c=some o->g.get? c=some o)->Q (.ref (s.heap.objs.size+4)) { s with heap:=g }) :
  wpAny (model prog w) A (call (.type "zip") [.ref a,.ref b]) Q E s:=by
 refine callType_new F.called_zip (by decide) (F.typeCall_zip_2 _ _) (F.newCall_zip_2 _ _) (fun obj=>F.args_object_init_3 obj _ _) F.entry_zip_new (Eh a b xs ys) ⟨ga,gb,?_⟩
 have z1:(pC s.heap a).objs.size=s.heap.objs.size+1:=Hc ..
 have z2:(pD s.heap a b).objs.size=s.heap.objs.size+2:=by rw [Hc,z1]
 have z3:(Cd s.heap a b).objs.size=s.heap.objs.size+3:=by rw [Hc,z2]
 have z4:(Ce s.heap a b).objs.size=s.heap.objs.size+4:=by rw [Hc,z3]
 have up:∀{h:Heap} {c:Addr} {o o':Obj},h.get? c=some o->(h.push o').get? c=some o:=fun e=>GV _ e
 have q5:(wF s.heap a b).get? (Ce s.heap a b).objs.size=some _:=GX _ rfl
 have q4:(wF s.heap a b).get? (Cd s.heap a b).objs.size=some _:=up (GX _ rfl)
 have q3:(wF s.heap a b).get? (pD s.heap a b).objs.size=some _:=up (up (GX _ rfl))
 have q2:(wF s.heap a b).get? (pC s.heap a).objs.size=some _:=up (up (up (GX _ rfl)))
 have q1:(wF s.heap a b).get? s.heap.objs.size=some _:=up (up (up (up (GX _ rfl))))
 show _/\_
 rw [z2,z3,z4] at q5
 rw [z1,z2] at q3
 rw [z3] at q4
 rw [z1] at q2
 rw [z4]
 exact⟨⟨_,q5,rfl⟩,h _ q5 q3 q4 ⟨_,q1,rfl,rfl⟩ ⟨_,q2,rfl,rfl⟩ fun c o x=>up (up (up (up (up x))))⟩
end
section
variable {X:Cx}{pins:List (Addr×Obj)}{GK : List (Option V)}{H H':Hp}{s:Shared}{h':Heap}
theorem Inv.nh {t':Nat}{fp:List Addr}(I:Inv X pins GK H s)(k:∀b o,b∉fp->s.heap.get? b=some o->h'.get? b=some o)(f:∀b∈fp,iG X pins H b):Inv X pins GK H { s with heap:=h',toks:=t' }:=by
 have nit:∀b u,H b=some u->b∉fp:=fun b u e z=>by rw [(f b z).1] at e;cases e
 refine I.step (g':=s.gens) (d':=s.drawn) (ch:=fp) (fun b hb=>?_) (fun b o _ _ hc e _=>k b o hc e) (fun b o _ _ hc e _=>⟨o.slots,k b o hc e⟩) (fun _ _ _ _ n=>n)
  (fun b o hc e=>⟨o,k b o hc e⟩) (fun _ _ e=>e) (fun _ _ _ e=>e) (fun b ps e=>⟨#[],by rw [e];simp⟩) (fun m hm=>?_) (fun b u e=>?_) I.bare
 ·obtain⟨f0,f1,f2,f3,f4,f5⟩:=f b hb
  exact⟨f3,f1,f4,f5⟩
 ·obtain⟨o,es,ep,ho,r⟩:=hm
  exact⟨o,es,ep,k _ o (fun z=>(f _ z).2.1 rfl) ho,r⟩
 ·refine (I.aW b u e).oy (fun c v hc q=>k c v ?_ q) (fun _ q=>q) fun _ _ q=>q
  rcases hc with z | z
  ·rw [z];exact nit b u e
  ·exact nit c _ z
def Cf (K:GP)(a b:Addr):It :=
 ⟨fun i H=>∃xs ys x y,av K H a xs/\av K H b ys/\xs[i]?=some x/\ys[i]?=some y,
  fun i H v H'=>∃t x y,v=.ref t/\H t=none/\H' = upd H t (.tup [x,y])/\∀xs ys,av K H a xs->av K H b ys->xs[i]?=some x/\ys[i]?=some y,
  fun i H=>∃xs ys,av K H a xs/\av K H b ys/\(xs.length<=i\/ys.length<=i)⟩
theorem AB {P:Program}{w:World}{K:GP}{elts:List Expr}{kk:Nat}{pos:Pos}(a b z p q j k:Addr)(D:wC z p q j k a b) :
    Turn P w K (.Tuple elts kk pos) (Cf K a b) [z,p,q,j,k] z (fun i h=>IsZip h z p q .none/\IsPair h p (.ref j) (.ref k)/\(∃u v,IsPair h q u v)/\h.IsTupleIter j a i/\h.IsTupleIter k b i) where
  mem:=by simp
  obj:=fun i h st c hc=>by
    obtain⟨gz,gp,⟨u,v,gq⟩,⟨oj,ej,cj,dj⟩,⟨ok,ek,ck,dk⟩⟩:=st
    simp only [GS,HL,or_false] at hc
    rcases hc with rfl | rfl | rfl | rfl | rfl
    . exact⟨_,gz,fun v e=>by cases e⟩
    . exact⟨_,gp,fun v e=>by cases e⟩
    . exact⟨_,gq,fun v e=>by cases e⟩
    . exact⟨oj,ej,fun v e=>by rw [dj] at e;cases e⟩
    . exact⟨ok,ek,fun v e=>by rw [dk] at e;cases e⟩
  keep:=fun i h g st kp=>by
    obtain⟨gz,gp,⟨u,v,gq⟩,⟨oj,ej,rj⟩,⟨ok,ek,rk⟩⟩:=st
    exact⟨kp z (by simp) _ gz,kp p (by simp) _ gp,⟨u,v,kp q (by simp) _ gq⟩,⟨oj,kp j (by simp) _ ej,rj⟩,⟨ok,kp k (by simp) _ ek,rk⟩⟩
  item:=by
    intro X hP hw hK hc i pins s GK H E I hf st hg
    subst hP hw hK
    obtain⟨gz,gp,⟨u,v,gq⟩,gj,gk⟩:=st
    obtain⟨xs,ys,x,y,ha,hb,hx,hy⟩:=hg
    obtain⟨is,ra,pa,_⟩:=I.tuple ha
    obtain⟨js,rb,pb,_⟩:=I.tuple hb
    obtain⟨xv,hxv,rx⟩:=ra.get hx
    obtain⟨yv,hyv,ry⟩:=rb.get hy
    have sz:∀c∈[z,p,q,j,k],c≠s.heap.objs.size:=fun c hc e=>by
      subst e
      simp only [GS,HL,or_false] at hc
      rcases hc with e | e | e | e | e
      . exact absurd (GU gz) (by rw [<-e];exact Hf _)
      . exact absurd (GU gp) (by rw [<-e];exact Hf _)
      . exact absurd (GU gq) (by rw [<-e];exact Hf _)
      . obtain⟨oj,ej,_⟩:=gj
        exact absurd (GU ej) (by rw [<-e];exact Hf _)
      . obtain⟨ok,ek,_⟩:=gk
        exact absurd (GU ek) (by rw [<-e];exact Hf _)
    refine CQ D gz gp gq gj gk (show s.heap.IsTuple a is.toArray from pa) (show s.heap.IsTuple b js.toArray from pb) (x:=xv) (y:=yv) (by simpa using hxv) (by simpa using hyv) fun g a1 a2 a3 a4 a5 a6 hk=>?_
    refine⟨.ref s.heap.objs.size,rfl,J8 a1 fun g' gz' sb=>?_⟩
    have fr:=I.aW.fresh (a:=s.heap.objs.size) (GQ _)
    have I1:Inv X pins GK (upd H s.heap.objs.size (.tup [x,y])) { s with heap:=s.heap.push { cls:=.type "tuple",data:=.seq #[xv,yv] },toks:=s.toks } :=
      I.laid (fun _ _ e=>GV _ e) (GQ _) ⟨by show 2<=sizeLine;decide,[xv,yv],.cons rx (.cons ry .nil),by first | exact IsTup.new _ _ | exact⟨_,GX _ rfl,rfl,_,rfl,rfl⟩⟩
    have f1:∀c∈[z,p,q,j,k],iG X pins (upd H s.heap.objs.size (.tup [x,y])) c:=fun c hc=>by
      obtain⟨f0,fr'⟩:=hf c hc
      exact⟨by rw [au (sz c hc)];exact f0,fr'⟩
    have I2:Inv X pins GK (upd H s.heap.objs.size (.tup [x,y])) { s with heap:=g',toks:=s.toks }:=Inv.nh (s:={ s with heap:=s.heap.push { cls:=.type "tuple",data:=.seq #[xv,yv] },toks:=s.toks }) (fp:=[z,p,q,j,k]) (h':=g') (t':=s.toks) I1 (fun c o hc e=>by
      simp only [GS,HL,or_false,not_or] at hc
      refine sb.extBut _ _ hc.1 ?_
      rcases Heap.get?_push_cases e with ⟨rfl,rfl⟩ | e
      . exact a5
      . exact hk c o hc.1 hc.2.2.1 hc.2.2.2.1 hc.2.2.2.2 e) f1
    refine⟨.ref s.heap.objs.size,_,I2,rfl,⟨_,x,y,rfl,fr,rfl,fun xs' ys' h1 h2=>?_⟩,⟨gz',sb.extBut _ _ D.pz (hk _ _ D.pz D.pq D.pj D.pk gp),⟨xv,yv,sb.extBut _ _ D.qz a2⟩,a3.extBut sb.extBut D.jz,a4.extBut sb.extBut D.kz⟩,fun c hc=>(f1 c hc).1⟩
    rw [I.gx h1 ha,I.gx h2 hb]
    exact⟨hx,hy⟩
  done:=by
    intro X hP hw hK hc i pins s GK H E I hf st hg
    subst hP hw hK
    obtain⟨gz,gp,⟨u,v,gq⟩,gj,gk⟩:=st
    obtain⟨xs,ys,ha,hb,hl⟩:=hg
    obtain⟨is,ra,pa,_⟩:=I.tuple ha
    obtain⟨js,rb,pb,_⟩:=I.tuple hb
    have la:=ra.length
    have lb:=rb.length
    have he:is.toArray[i]?=none\/js.toArray[i]?=none:=by
      rcases hl with h | h
      . exact .inl (by simp;omega)
      . exact .inr (by simp;omega)
    exact CS (I.ok.hd hc) D gz gp gq gj gk (show s.heap.IsTuple a is.toArray from pa) (show s.heap.IsTuple b js.toArray from pb) he fun g hk=>⟨rfl,I.nh (fp:=[z,p,q,j,k]) (t':=s.toks) (fun c o hc e=>by
      simp only [GS,HL,or_false,not_or] at hc
      exact hk c o hc.1 hc.2.2.1 hc.2.2.2.1 hc.2.2.2.2 e) hf⟩
  self:=fun _ _ _ _ _ st h=>JY st.1 h
theorem Gw {N a b:Nat}(ha:a<N)(hb:b<N):wC (N+4:Nat) (N+2:Nat) (N+3:Nat) N (N+1:Nat) a b :=
 have ne:∀{u v:Nat},u<v->¬(u=v):=fun h e=>by omega
 have ne':∀{u v:Nat},v<u->¬(u=v):=fun h e=>by omega
 ⟨ne (by omega),ne (by omega),ne (by omega),ne (by omega),ne (by omega),ne' (by omega),ne' (by omega),ne' (by omega),ne' (by omega),ne (by omega),ne (by omega),ne (by omega),ne (by omega),ne (by omega),ne (by omega),ne (by omega),ne (by omega),ne (by omega)⟩
theorem yV:bootBuiltins "zip" = some (.type "zip"):=by decide +kernel
def Ge (K:GP)(ta:TA):TI:=fun GK H R=>ta GK H fun vs H1=>∃a b,vs=[.ref a,.ref b]/\(∃xs,av K H1 a xs)/\(∃ys,av K H1 b ys)/\R (Cf K a b) H1
theorem ur {a b:Expr} {ta:TA} {p pos tp:Pos} {elts:List Expr} {kk:Nat} (hg:Gl X "zip") (hm:X.mg "zip" = none) (ha:PA X [a,b] ta) (hs:starEach [a,b] X.env=[(false,eval a X.env),(false,eval b X.env)]:=by rfl) (hs2:starEach [b] X.env=[(false,eval b X.env)]:=by rfl) :
  PI X (.Tuple elts kk tp) (.Call (.Name "zip" p) [a,b] [] pos) (Ge X.K ta):=by
 intro pins s GK H R I h
 refine Call_ (jY I hg hm yV (PyProof.Rows.callWith_type1 (bg (ha pos pins s GK H _ I h) fun us s1 ⟨vs,H1,I1,r1,q1⟩=>?_) (by rw [hs,hs2]) (by rw [hs2];rfl)))
 obtain⟨x,y,e,⟨xs,hx⟩,⟨ys,hy⟩,q⟩:=q1
 subst e
 cases r1 with
 | cons r rr =>
  cases rr with
  | cons r' rr =>
   cases rr
   cases r
   cases r'
   obtain⟨is,rx,px,_⟩:=I1.tuple hx
   obtain⟨js,ry,py,_⟩:=I1.tuple hy
   have lx:x<s1.heap.objs.size:=px.lt
   have ly:y<s1.heap.objs.size:=py.lt
   refine CT (show s1.heap.IsTuple x is.toArray from px) (show s1.heap.IsTuple y js.toArray from py) fun g gz gp gq gj gk up=>?_
   refine JY gz ?_
   have I2:Inv X pins GK H1 { s1 with heap:=g }:=I1.kept (t':=s1.toks) up
   refine⟨_,[s1.heap.objs.size+4,s1.heap.objs.size+2,s1.heap.objs.size+3,s1.heap.objs.size,s1.heap.objs.size+1],_,Cf X.K x y,H1,rfl,I2,AB x y _ _ _ _ _ ?_,⟨gz,gp,⟨_,_,gq⟩,gj,gk⟩,fun c hc=>?_,q⟩
   ·exact Gw lx ly
   ·have le:s1.heap.objs.size<=c:=by
     simp only [GS,HL,or_false] at hc
     rcases hc with rfl | rfl | rfl | rfl | rfl
     ·exact HM _ _
     ·exact HM _ _
     ·exact HM _ _
     ·exact GQ _
     ·exact HM _ _
    exact I1.lT le (I1.aW.fresh le)
theorem uu {K:GP}{a b acc:Addr}{xs ys:List V}{n:Nat}{js:List Nat}{g:TG}{ct:TT}{te:TE}{GK : St}{H1:Hp}{Q:VK}(Pv:Nat->List V->St->Hp->Prop)(h0:Pv 0 [] (nT n js GK) (upd H1 acc (.lst [])))
  (hl:∀i zs GL H,i<=min xs.length ys.length->Pv i zs GL H->av K H a xs/\av K H b ys/\H acc=some (.lst zs)/\zs.length<sizeLine)
  (hs:∀i x y zs GL H t,xs[i]?=some x->ys[i]?=some y->H t=none->Pv i zs GL H->g (.ref t) GL (upd H t (.tup [x,y])) fun τ1 H4=>ct τ1 H4 fun b H5=>if b=true then te τ1 H5 fun v H6=>H6 acc=some (.lst zs)/\Pv (i+1) (zs++[v]) τ1 (upd H6 acc (.lst (zs++[v]))) else Pv (i+1) zs τ1 H5)
  (hd:∀zs GL H,Pv (min xs.length ys.length) zs GL H->Q (.ref acc) H) :
  wA (Cf K a b) n js g ct te acc GK H1 Q:=by
 refine⟨fun i m zs GL H=>m=min xs.length ys.length-i/\i<=min xs.length ys.length/\Pv i zs GL H,⟨min xs.length ys.length,by simp,Hg _,h0⟩,?_⟩
 rintro i m zs GL H ⟨rfl,hi,p⟩
 obtain⟨qa,qb,q2,q3⟩:=hl i zs GL H hi p
 refine⟨q2,q3,?_⟩
 by_cases hlt:i<min xs.length ys.length
 ·have l1:i<xs.length:=by omega
  have l2:i<ys.length:=by omega
  refine .inr ⟨⟨xs,ys,xs[i],ys[i],qa,qb,by simp [l1],by simp [l2]⟩,Pv (i+1),fun zs' τ' H' p'=>⟨min xs.length ys.length-(i+1),by omega,rfl,hlt,p'⟩,fun v H' y=>?_⟩
  obtain⟨t,x,y,rfl,ht,rfl,h⟩:=y
  obtain⟨h1,h2⟩:=h xs ys qa qb
  exact hs i x y zs GL H t h1 h2 ht p
 ·have e:i=min xs.length ys.length:=by omega
  subst e
  refine .inl ⟨⟨xs,ys,qa,qb,?_⟩,hd zs GL H p⟩
  rcases Nat.le_total xs.length ys.length with h | h
  ·exact .inl (by omega)
  ·exact .inr (by omega)
end
abbrev dN (h:Heap)(T:Addr)(a b c:Value):Prop:=h.get? T=some { cls:=.type "tuple",data:=.seq #[a,b,c] }
structure Cg (z p q j k l a b c:Addr):Prop where
 pz:p≠z
 qz:q≠z
 jz:j≠z
 kz:k≠z
 lz:l≠z
 pq:p≠q
 pj:p≠j
 pk:p≠k
 pl:p≠l
 qj:q≠j
 qk:q≠k
 ql:q≠l
 jk:j≠k
 jl:j≠l
 kl:k≠l
 az:a≠z
 aq:a≠q
 aj:a≠j
 ak:a≠k
 al:a≠l
 bz:b≠z
 bq:b≠q
 bj:b≠j
 bk:b≠k
 bl:b≠l
 cz:c≠z
 cq:c≠q
 cj:c≠j
 ck:c≠k
 cl:c≠l
section
variable {prog:Program}{w:World}{A:Around}{E:Value->Shared->Prop}{s:Shared}
theorem hJ {T:Addr}{a b c x:Value}{k:Nat}{Q:Unit->Shared->Prop}(hT:dN s.heap T a b c)
  (h:∀h',h'.get? T=some { cls:=.type "tuple",data:=.seq ((#[a,b,c]:Array Value).setIfInBounds k x) }->Hk T s.heap h'->Q () { s with heap:=h' }) :
  wpAny (model prog w) A (updateSeq T (·.setIfInBounds k x)) Q E s:=by
 refine wpAny_updateSeq hT rfl (h _ ?_ (Hk.update ..))
 rw [HJ _ hT rfl]
 simp [Obj.mapSeq]
theorem CU {z p q j k l a b c:Addr}{m n o:Nat}{xs ys ws:Array Value}{x y r u v t:Value}{Q:Value->Shared->Prop}(D:Cg z p q j k l a b c)
  (gz:IsZip s.heap z p q .none) (gp:dN s.heap p (.ref j) (.ref k) (.ref l)) (gq:dN s.heap q u v t)
  (gj:s.heap.IsTupleIter j a m) (gk:s.heap.IsTupleIter k b n) (gl:s.heap.IsTupleIter l c o) (ga:s.heap.IsTuple a xs) (gb:s.heap.IsTuple b ys) (gc:s.heap.IsTuple c ws) (hx:xs[m]?=some x) (hy:ys[n]?=some y) (hw:ws[o]?=some r)
  (hQ:∀g,IsZip g z p q (rawInt s.heap.objs.size)->dN g q x y r->g.IsTupleIter j a (m+1)->g.IsTupleIter k b (n+1)->g.IsTupleIter l c (o+1)->dN g s.heap.objs.size x y r->g.objs.size=s.heap.objs.size+1 ->
   (∀c o,c≠z->c≠q->c≠j->c≠k->c≠l->s.heap.get? c=some o->g.get? c=some o)->Q (.ref s.heap.objs.size) { s with heap:=g }) :
  wpAny (model prog w) A (Builtin.«zip.__next__» ⟨[.ref z],[]⟩) (fun fin s'=>∃v,fin=.done (.ret v)/\Q v s') E s:=by
 show wpAny _ _ (field (.ref z) 2 >>= fun _=>_) _ _ _
 refine Jx (JA gz rfl (x:=.bool false) rfl ?_)
 show wpAny _ _ (field (.ref z) 3 >>= fun _=>_) _ _ _
 refine Jx (JA gz rfl (x:=.ref p) rfl (Jx (JD gp rfl ?_)))
 show wpAny _ _ (Builtin.SmallTypes.ownedTupleIsFree (.ref z) >>= fun _=>_) _ _ _
 refine Jx ?_
 unfold Builtin.SmallTypes.ownedTupleIsFree
 refine Jx (JA gz rfl (x:=.none) rfl (Jy ?_))
 simp only [if_true]
 refine Jx (JF (Jx (JA gz rfl (x:=.ref q) rfl (Jx (JG gz (by simp) fun g1 gz1 t1=>?_)))))
 replace gz1:IsZip g1 z p q .ellipsis:=gz1
 refine Jx ?_
 simp only [HS,Ir,IZ,I0]
 refine Jx (Jx (JM ?_))
 show wpAny _ _ (Builtin.SmallTypes.nextOf (.ref j) >>= fun _=>_) _ _ _
 refine Jx (j5 (gj.extBut t1.extBut D.jz) (eG ga fun o e=>t1.extBut _ _ D.az e) hx fun g2 gj2 t2=>Jy ?_)
 have gq2:dN g2 q u v t:=t2.extBut _ _ D.qj (t1.extBut _ _ D.qz gq)
 refine Jx (JD gq2 rfl (Jx (hJ gq2 fun g3 gq3 t3=>?_)))
 replace gq3:dN g3 q x v t:=gq3
 refine Jx (JQ (Jy (Jx (Jx (JM ?_)))))
 show wpAny _ _ (Builtin.SmallTypes.nextOf (.ref k) >>= fun _=>_) _ _ _
 refine Jx (j5 (((gk.extBut t1.extBut D.kz).extBut t2.extBut D.jk.symm).extBut t3.extBut D.qk.symm) (eG gb fun o e=>t3.extBut _ _ D.bq (t2.extBut _ _ D.bj (t1.extBut _ _ D.bz e))) hy fun g4 gk4 t4=>Jy ?_)
 have gq4:dN g4 q x v t:=t4.extBut _ _ D.qk gq3
 refine Jx (JD gq4 rfl (Jx (hJ gq4 fun g5 gq5 t5=>?_)))
 replace gq5:dN g5 q x y t:=gq5
 refine Jx (JQ (Jy (Jx (Jx (JM ?_)))))
 show wpAny _ _ (Builtin.SmallTypes.nextOf (.ref l) >>= fun _=>_) _ _ _
 refine Jx (j5 (((((gl.extBut t1.extBut D.lz).extBut t2.extBut D.jl.symm).extBut t3.extBut D.ql.symm).extBut t4.extBut D.kl.symm).extBut t5.extBut D.ql.symm) (eG gc fun o e=>t5.extBut _ _ D.cq (t4.extBut _ _ D.ck (t3.extBut _ _ D.cq (t2.extBut _ _ D.cj (t1.extBut _ _ D.cz e))))) hw fun g6 gl6 t6=>Jy ?_)
 have gq6:dN g6 q x y t:=t6.extBut _ _ D.ql gq5
 refine Jx (JD gq6 rfl (Jx (hJ gq6 fun g9 gq9 t9=>?_)))
 replace gq9:dN g9 q x y r:=gq9
 refine Jx (JQ (Jy (Jy (Jx (JD gq9 rfl (Jx (wpAny_newTuple ?_)))))))
 have ez:g9.objs.size=s.heap.objs.size:=by rw [t9.1,t6.1,t5.1,t4.1,t3.1,t2.1,t1.1]
 have gz9:IsZip g9 z p q .ellipsis:=t9.extBut _ _ D.qz.symm (t6.extBut _ _ D.lz.symm (t5.extBut _ _ D.qz.symm (t4.extBut _ _ D.kz.symm (t3.extBut _ _ D.qz.symm (t2.extBut _ _ D.jz.symm gz1)))))
 have k9:∀c o,c≠z->c≠q->c≠j->c≠k->c≠l->s.heap.get? c=some o->g9.get? c=some o:=fun c o c1 c2 c3 c4 c5 e=>t9.extBut _ _ c2 (t6.extBut _ _ c5 (t5.extBut _ _ c2 (t4.extBut _ _ c4 (t3.extBut _ _ c2 (t2.extBut _ _ c3 (t1.extBut _ _ c1 e))))))
 have gj9:g9.IsTupleIter j a (m+1):=((((gj2.extBut t3.extBut D.qj.symm).extBut t4.extBut D.jk).extBut t5.extBut D.qj.symm).extBut t6.extBut D.jl).extBut t9.extBut D.qj.symm
 have gk9:g9.IsTupleIter k b (n+1):=((gk4.extBut t5.extBut D.qk.symm).extBut t6.extBut D.kl).extBut t9.extBut D.qk.symm
 have gl9:g9.IsTupleIter l c (o+1):=gl6.extBut t9.extBut D.ql.symm
 have lz:z<g9.objs.size:=GU gz9
 show wpAny _ _ (Builtin.SmallTypes.ownedTupleHandOut (.ref z) (.ref g9.objs.size) >>= fun _=>_) _ _ _
 refine Jx ?_
 unfold Builtin.SmallTypes.ownedTupleHandOut
 have gz6:IsZip (g9.push { cls:=.type "tuple",data:=.seq #[x,y,r] }) z p q .ellipsis:=GV _ gz9
 refine Jx (JG gz6 (by simp) fun g7 gz7 t7=>?_)
 replace gz7:IsZip g7 z p q (rawInt g9.objs.size):=gz7
 refine JG gz7 (by simp) fun g8 gz8 t8=>?_
 replace gz8:IsZip g8 z p q (rawInt g9.objs.size):=gz8
 have up:∀c o,c≠z->g9.get? c=some o->g8.get? c=some o:=fun c o c1 e=>t8.extBut _ _ c1 (t7.extBut _ _ c1 (GV _ e))
 have gT:dN g8 g9.objs.size x y r:=t8.extBut _ _ (HE lz) (t7.extBut _ _ (HE lz) (GX _ rfl))
 have e8:g8.objs.size=g9.objs.size+1:=by rw [t8.1,t7.1,Hc]
 rw [ez] at gz8 gT e8
 refine Jy ⟨_,rfl,?_⟩
 show Q (.ref g9.objs.size) _
 rw [ez]
 refine hQ g8 gz8 (up _ _ D.qz gq9) ?_ ?_ ?_ gT e8 fun c o c1 c2 c3 c4 c5 e=>up c o c1 (k9 c o c1 c2 c3 c4 c5 e)
 ·obtain⟨o,e,r⟩:=gj9
  exact⟨o,up _ _ D.jz e,r⟩
 ·obtain⟨o,e,r⟩:=gk9
  exact⟨o,up _ _ D.kz e,r⟩
 ·obtain⟨o,e,r⟩:=gl9
  exact⟨o,up _ _ D.lz e,r⟩
theorem Ei {z p q j k l a b c:Addr}{m:Nat}{xs:Array Value}{u v t:Value}{Q:Fin->Shared->Prop}(ha:A.handled=none)(D:Cg z p q j k l a b c)
  (gz:IsZip s.heap z p q .none) (gp:dN s.heap p (.ref j) (.ref k) (.ref l)) (gj:s.heap.IsTupleIter j a m) (ga:s.heap.IsTuple a xs) (hx:xs[m]?=none)
  (hE:∀g e,(∀c o,c≠z->c≠q->c≠j->c≠k->c≠l->s.heap.get? c=some o->g.get? c=some o)->(∃o,g.get? e=some o/\o.cls=.type "StopIteration")->E (.ref e) { s with heap:=g }) :
  wpAny (model prog w) A (Builtin.«zip.__next__» ⟨[.ref z],[]⟩) Q E s:=by
 show wpAny _ _ (field (.ref z) 2 >>= fun _=>_) _ _ _
 refine Jx (JA gz rfl (x:=.bool false) rfl ?_)
 show wpAny _ _ (field (.ref z) 3 >>= fun _=>_) _ _ _
 refine Jx (JA gz rfl (x:=.ref p) rfl (Jx (JD gp rfl ?_)))
 show wpAny _ _ (Builtin.SmallTypes.ownedTupleIsFree (.ref z) >>= fun _=>_) _ _ _
 refine Jx ?_
 unfold Builtin.SmallTypes.ownedTupleIsFree
 refine Jx (JA gz rfl (x:=.none) rfl (Jy ?_))
 simp only [if_true]
 refine Jx (JF (Jx (JA gz rfl (x:=.ref q) rfl (Jx (JG gz (by simp) fun g1 gz1 t1=>?_)))))
 replace gz1:IsZip g1 z p q .ellipsis:=gz1
 refine Jx ?_
 simp only [HS,Ir,IZ,I0]
 refine Jx (Jx (JM ?_))
 show wpAny _ _ (Builtin.SmallTypes.nextOf (.ref j) >>= fun _=>_) _ _ _
 refine Jx (qM ha (gj.extBut t1.extBut D.jz) (eG ga fun o e=>t1.extBut _ _ D.az e) hx fun g2 e t2 he=>?_)
 obtain⟨oe,eoe,ce⟩:=he
 have gz2:IsZip g2 z p q .ellipsis:=t2 _ _ D.jz.symm gz1
 have ne:e≠z:=fun x=>by subst x;rw [gz2] at eoe;cases eoe;simp at ce
 exact JG gz2 (by simp) fun g3 _ t3=>hE g3 e (fun c o c1 _ c3 _ _ x=>t3.extBut _ _ c1 (t2 _ _ c3 (t1.extBut _ _ c1 x))) ⟨oe,t3.extBut _ _ ne eoe,ce⟩
abbrev Ci (h:Heap)(a b c:Addr):Heap:=(pD h a b).push { cls:=.type "tuple_iterator",data:=.fields #[.ref c,.int 0 0] }
abbrev Cj (h:Heap)(a b c:Addr):Heap:=(Ci h a b c).push { cls:=.type "tuple",data:=.seq #[.ref h.objs.size,.ref (pC h a).objs.size,.ref (pD h a b).objs.size] }
abbrev Ck (h:Heap)(a b c:Addr):Heap:=(Cj h a b c).push { cls:=.type "tuple",data:=.seq #[.none,.none,.none] }
abbrev uv (h:Heap)(a b c:Addr):Heap:=(Ck h a b c).push { cls:=.type "zip",data:=.fields #[.none,.bool false,.bool false,.ref (Ci h a b c).objs.size,.ref (Cj h a b c).objs.size] }
theorem Ej (a b c:Addr) (xs ys ws:Array Value):Meets (Builtin.«zip.__new__» ⟨[.type "zip",.ref a,.ref b,.ref c],[]⟩) (fun _ R s=>s.heap.IsTuple a xs/\s.heap.IsTuple b ys/\s.heap.IsTuple c ws /\
   R (.ok (.ret (.ref (Ck s.heap a b c).objs.size))) { s with heap:=uv s.heap a b c }) :=
 .of_wp fun P w' A' R' s' hh=>by
  obtain⟨hp,g,d,tk,os⟩:=s'
  obtain⟨ga,gb,gc,hh⟩:=hh
  have hsub:=sub_zip
  have la:II (IJ ⟨hp,g,d,tk,os⟩) a xs:=ga
  have lb:II (IJ ⟨pC hp a,g,d,tk,os⟩) b ys:=eG gb fun o e=>GV _ e
  have lc:II (IJ ⟨pD hp a b,g,d,tk,os⟩) c ws:=eG gc fun o e=>GV _ (GV _ e)
  wp_walk using JO la,JO lb,JO lc
  exact⟨_,rfl,hh⟩
theorem qN (a b c:Value):checkTypeCall "zip" ⟨[a,b,c],[]⟩=pure ():=by kernel_rfl
theorem tG (a b c:Value):checkBuiltinCall "zip.__new__" ⟨[.type "zip",a,b,c],[]⟩=pure ():=by kernel_rfl
theorem vD (a b c d:Value):argsOk "object.__init__" ⟨[a,b,c,d],[]⟩:=by
 unfold argsOk;rw [signature?_of (id := "object.__init__") (n:=['_','_','t','i','n','i','_','_']) (o:=['t','c','e','j','b','o']) (by kernel_rfl) F.owner_object];kernel_rfl
theorem CV {a b c:Addr}{xs ys ws:Array Value}{Q:Value->Shared->Prop}(ga:s.heap.IsTuple a xs)(gb:s.heap.IsTuple b ys)(gc:s.heap.IsTuple c ws)
  (h:∀g,IsZip g (s.heap.objs.size+5) (s.heap.objs.size+3) (s.heap.objs.size+4) .none->dN g (s.heap.objs.size+3) (.ref s.heap.objs.size) (.ref (s.heap.objs.size+1)) (.ref (s.heap.objs.size+2)) ->
   dN g (s.heap.objs.size+4) .none .none .none->g.IsTupleIter s.heap.objs.size a 0->g.IsTupleIter (s.heap.objs.size+1) b 0->g.IsTupleIter (s.heap.objs.size+2) c 0 ->
   (∀c o,s.heap.get? c=some o->g.get? c=some o)->Q (.ref (s.heap.objs.size+5)) { s with heap:=g }) :
  wpAny (model prog w) A (call (.type "zip") [.ref a,.ref b,.ref c]) Q E s:=by
 refine callType_new F.called_zip (by decide) (qN _ _ _) (tG _ _ _) (fun obj=>vD obj _ _ _) F.entry_zip_new (Ej a b c xs ys ws) ⟨ga,gb,gc,?_⟩
 have z1:(pC s.heap a).objs.size=s.heap.objs.size+1:=Hc ..
 have z2:(pD s.heap a b).objs.size=s.heap.objs.size+2:=by rw [Hc,z1]
 have z3:(Ci s.heap a b c).objs.size=s.heap.objs.size+3:=by rw [Hc,z2]
 have z4:(Cj s.heap a b c).objs.size=s.heap.objs.size+4:=by rw [Hc,z3]
 have z5:(Ck s.heap a b c).objs.size=s.heap.objs.size+5:=by rw [Hc,z4]
 have up:∀{h:Heap} {c:Addr} {o o':Obj},h.get? c=some o->(h.push o').get? c=some o:=fun e=>GV _ e
 have q6:(uv s.heap a b c).get? (Ck s.heap a b c).objs.size=some _:=GX _ rfl
 have q5:(uv s.heap a b c).get? (Cj s.heap a b c).objs.size=some _:=up (GX _ rfl)
 have q4:(uv s.heap a b c).get? (Ci s.heap a b c).objs.size=some _:=up (up (GX _ rfl))
 have q3:(uv s.heap a b c).get? (pD s.heap a b).objs.size=some _:=up (up (up (GX _ rfl)))
 have q2:(uv s.heap a b c).get? (pC s.heap a).objs.size=some _:=up (up (up (up (GX _ rfl))))
 have q1:(uv s.heap a b c).get? s.heap.objs.size=some _:=up (up (up (up (up (GX _ rfl)))))
 show _/\_
 rw [z3,z4,z5] at q6
 rw [z1,z2,z3] at q4
 rw [z4] at q5
 rw [z2] at q3
 rw [z1] at q2
 rw [z5]
 exact⟨⟨_,q6,rfl⟩,h _ q6 q4 q5 ⟨_,q1,rfl,rfl⟩ ⟨_,q2,rfl,rfl⟩ ⟨_,q3,rfl,rfl⟩ fun c o x=>up (up (up (up (up (up x)))))⟩
end
def qO (K:GP)(a b c:Addr):It :=
 ⟨fun i H=>∃xs ys ws x y r,av K H a xs/\av K H b ys/\av K H c ws/\xs[i]?=some x/\ys[i]?=some y/\ws[i]?=some r,
  fun i H v H'=>∃t x y r,v=.ref t/\H t=none/\H' = upd H t (.tup [x,y,r])/\∀xs ys ws,av K H a xs->av K H b ys->av K H c ws->xs[i]?=some x/\ys[i]?=some y/\ws[i]?=some r,
  fun i H=>∃xs,av K H a xs/\xs.length<=i⟩
theorem yW {P:Program}{w:World}{K:GP}{elts:List Expr}{kk:Nat}{pos:Pos}(a b c z p q j k l:Addr)(D:Cg z p q j k l a b c) :
  Turn P w K (.Tuple elts kk pos) (qO K a b c) [z,p,q,j,k,l] z (fun i h=>IsZip h z p q .none/\dN h p (.ref j) (.ref k) (.ref l)/\(∃u v t,dN h q u v t)/\h.IsTupleIter j a i/\h.IsTupleIter k b i/\h.IsTupleIter l c i) where
 mem:=by simp
 obj:=fun i h st d hd=>by
  obtain⟨gz,gp,⟨u,v,t,gq⟩,⟨oj,ej,cj,dj⟩,⟨ok,ek,ck,dk⟩,⟨ol,el,cl,dl⟩⟩:=st
  simp only [GS,HL,or_false] at hd
  rcases hd with rfl | rfl | rfl | rfl | rfl | rfl
  ·exact⟨_,gz,fun v e=>by cases e⟩
  ·exact⟨_,gp,fun v e=>by cases e⟩
  ·exact⟨_,gq,fun v e=>by cases e⟩
  ·exact⟨oj,ej,fun v e=>by rw [dj] at e;cases e⟩
  ·exact⟨ok,ek,fun v e=>by rw [dk] at e;cases e⟩
  ·exact⟨ol,el,fun v e=>by rw [dl] at e;cases e⟩
 keep:=fun i h g st kp=>by
  obtain⟨gz,gp,⟨u,v,t,gq⟩,⟨oj,ej,rj⟩,⟨ok,ek,rk⟩,⟨ol,el,rl⟩⟩:=st
  exact⟨kp z (by simp) _ gz,kp p (by simp) _ gp,⟨u,v,t,kp q (by simp) _ gq⟩,⟨oj,kp j (by simp) _ ej,rj⟩,⟨ok,kp k (by simp) _ ek,rk⟩,⟨ol,kp l (by simp) _ el,rl⟩⟩
 item:=by
  intro X hP hw hK hc i pins s GK H E I hf st hg
  subst hP hw hK
  obtain⟨gz,gp,⟨u,v,t,gq⟩,gj,gk,gl⟩:=st
  obtain⟨xs,ys,ws,x,y,r,ha,hb,hcc,hx,hy,hr⟩:=hg
  obtain⟨is,ra,pa,_⟩:=I.tuple ha
  obtain⟨js,rb,pb,_⟩:=I.tuple hb
  obtain⟨ls,rc,pc,_⟩:=I.tuple hcc
  obtain⟨xv,hxv,rx⟩:=ra.get hx
  obtain⟨yv,hyv,ry⟩:=rb.get hy
  obtain⟨rv,hrv,rr⟩:=rc.get hr
  have sz:∀d∈[z,p,q,j,k,l],d≠s.heap.objs.size:=fun d hd e=>by
   subst e
   simp only [GS,HL,or_false] at hd
   rcases hd with e | e | e | e | e | e
   ·exact absurd (GU gz) (by rw [<-e];exact Hf _)
   ·exact absurd (GU gp) (by rw [<-e];exact Hf _)
   ·exact absurd (GU gq) (by rw [<-e];exact Hf _)
   ·obtain⟨oj,ej,_⟩:=gj
    exact absurd (GU ej) (by rw [<-e];exact Hf _)
   ·obtain⟨ok,ek,_⟩:=gk
    exact absurd (GU ek) (by rw [<-e];exact Hf _)
   ·obtain⟨ol,el,_⟩:=gl
    exact absurd (GU el) (by rw [<-e];exact Hf _)
  have ty:s.TypeIs (.ref z) "zip" := ⟨_,gz,rfl⟩
  unfold pyNext
  refine Jx (JI (wpAny_callSpecial?_slot (name:=Str.ofString "__next__") ty F.slot_zip_next (JC F.slot_zip_next ty F.entry_zip_next
   (CU D gz gp gq gj gk gl (show s.heap.IsTuple a is.toArray from pa) (show s.heap.IsTuple b js.toArray from pb) (show s.heap.IsTuple c ls.toArray from pc) (x:=xv) (y:=yv) (r:=rv) (by simpa using hxv) (by simpa using hyv) (by simpa using hrv) fun g a1 a2 a3 a4 a5 a6 a7 hk=>Jy ?_) (F.args_zip_next_1 _))))
  refine⟨.ref s.heap.objs.size,rfl,J8 a1 fun g' gz' sb=>?_⟩
  have fr:=I.aW.fresh (a:=s.heap.objs.size) (GQ _)
  have I1:Inv X pins GK (upd H s.heap.objs.size (.tup [x,y,r])) { s with heap:=s.heap.push { cls:=.type "tuple",data:=.seq #[xv,yv,rv] },toks:=s.toks } :=
   I.laid (fun _ _ e=>GV _ e) (GQ _) ⟨by show 3<=sizeLine;decide,[xv,yv,rv],.cons rx (.cons ry (.cons rr .nil)),by first | exact IsTup.new _ _ | exact⟨_,GX _ rfl,rfl,_,rfl,rfl⟩⟩
  have f1:∀d∈[z,p,q,j,k,l],iG X pins (upd H s.heap.objs.size (.tup [x,y,r])) d:=fun d hd=>by
   obtain⟨f0,fr'⟩:=hf d hd
   exact⟨by rw [au (sz d hd)];exact f0,fr'⟩
  have I2:Inv X pins GK (upd H s.heap.objs.size (.tup [x,y,r])) { s with heap:=g',toks:=s.toks }:=Inv.nh (s:={ s with heap:=s.heap.push { cls:=.type "tuple",data:=.seq #[xv,yv,rv] },toks:=s.toks }) (fp:=[z,p,q,j,k,l]) (h':=g') (t':=s.toks) I1 (fun d o hd e=>by
   simp only [GS,HL,or_false,not_or] at hd
   refine sb.extBut _ _ hd.1 ?_
   rcases Heap.get?_push_cases e with ⟨rfl,rfl⟩ | e
   ·exact a6
   ·exact hk d o hd.1 hd.2.2.1 hd.2.2.2.1 hd.2.2.2.2.1 hd.2.2.2.2.2 e) f1
  refine⟨.ref s.heap.objs.size,_,I2,rfl,⟨_,x,y,r,rfl,fr,rfl,fun xs' ys' ws' h1 h2 h3=>?_⟩,⟨gz',sb.extBut _ _ D.pz (hk _ _ D.pz D.pq D.pj D.pk D.pl gp),⟨xv,yv,rv,sb.extBut _ _ D.qz a2⟩,a3.extBut sb.extBut D.jz,a4.extBut sb.extBut D.kz,a5.extBut sb.extBut D.lz⟩,fun d hd=>(f1 d hd).1⟩
  rw [I.gx h1 ha,I.gx h2 hb,I.gx h3 hcc]
  exact⟨hx,hy,hr⟩
 done:=by
  intro X hP hw hK hc i pins s GK H E I hf st hg
  subst hP hw hK
  obtain⟨gz,gp,⟨u,v,t,gq⟩,gj,gk,gl⟩:=st
  obtain⟨xs,ha,hl⟩:=hg
  obtain⟨is,ra,pa,_⟩:=I.tuple ha
  have la:=ra.length
  have he:is.toArray[i]?=none:=by simp;omega
  have ty:s.TypeIs (.ref z) "zip" := ⟨_,gz,rfl⟩
  unfold pyNext
  refine Jx (JI (wpAny_callSpecial?_slot (name:=Str.ofString "__next__") ty F.slot_zip_next (JC F.slot_zip_next ty F.entry_zip_next
   (Ei (u:=u) (v:=v) (t:=t) (I.ok.hd hc) D gz gp gj (show s.heap.IsTuple a is.toArray from pa) he fun g e hk he=>?_) (F.args_zip_next_1 _))))
  obtain⟨o,eo,ec⟩:=he
  exact Jx (JS (T := "StopIteration") (b:=true) ⟨o,eo,ec⟩ isSubtype_stop (Jy ⟨rfl,I.nh (fp:=[z,p,q,j,k,l]) (t':=s.toks) (fun d o hd e=>by
   simp only [GS,HL,or_false,not_or] at hd
   exact hk d o hd.1 hd.2.2.1 hd.2.2.2.1 hd.2.2.2.2.1 hd.2.2.2.2.2 e) hf⟩))
 self:=fun _ _ _ _ _ st h=>JY st.1 h
theorem Gf {N a b c:Nat}(ha:a<N)(hb:b<N)(hc:c<N):Cg (N+5:Nat) (N+3:Nat) (N+4:Nat) N (N+1:Nat) (N+2:Nat) a b c:=by
 constructor <;> (intro e;have e:(_:Nat)=_:=e;omega)
section
variable {X:Cx}
def E8 (K:GP)(ta:TA):TI:=fun GK H R=>ta GK H fun vs H1=>∃a b c,vs=[.ref a,.ref b,.ref c]/\(∃xs,av K H1 a xs)/\(∃ys,av K H1 b ys)/\(∃ws,av K H1 c ws)/\R (qO K a b c) H1
theorem CW {a b c:Expr} {ta:TA} {p pos tp:Pos} {elts:List Expr} {kk:Nat} (hg:Gl X "zip") (hm:X.mg "zip" = none) (ha:PA X [a,b,c] ta) (hs:starEach [a,b,c] X.env=[(false,eval a X.env),(false,eval b X.env),(false,eval c X.env)]:=by rfl) (hs2:starEach [b,c] X.env=[(false,eval b X.env),(false,eval c X.env)]:=by rfl) :
  PI X (.Tuple elts kk tp) (.Call (.Name "zip" p) [a,b,c] [] pos) (E8 X.K ta):=by
 intro pins s GK H R I h
 refine Call_ (jY I hg hm yV (PyProof.Rows.callWith_type1 (bg (ha pos pins s GK H _ I h) fun us s1 ⟨vs,H1,I1,r1,q1⟩=>?_) (by rw [hs,hs2]) (by rw [hs2];rfl)))
 obtain⟨x,y,r,e,⟨xs,hx⟩,⟨ys,hy⟩,⟨ws,hw⟩,q⟩:=q1
 subst e
 cases r1 with
 | cons r1 rr =>
  cases rr with
  | cons r2 rr =>
   cases rr with
   | cons r3 rr =>
   cases rr
   cases r1
   cases r2
   cases r3
   obtain⟨is,rx,px,_⟩:=I1.tuple hx
   obtain⟨js,ry,py,_⟩:=I1.tuple hy
   obtain⟨ls,rw',pw,_⟩:=I1.tuple hw
   have lx:x<s1.heap.objs.size:=px.lt
   have ly:y<s1.heap.objs.size:=py.lt
   have lw:r<s1.heap.objs.size:=pw.lt
   refine CV (show s1.heap.IsTuple x is.toArray from px) (show s1.heap.IsTuple y js.toArray from py) (show s1.heap.IsTuple r ls.toArray from pw) fun g gz gp gq gj gk gl up=>?_
   refine JY gz ?_
   have I2:Inv X pins GK H1 { s1 with heap:=g }:=I1.kept (t':=s1.toks) up
   refine⟨_,[s1.heap.objs.size+5,s1.heap.objs.size+3,s1.heap.objs.size+4,s1.heap.objs.size,s1.heap.objs.size+1,s1.heap.objs.size+2],_,qO X.K x y r,H1,rfl,I2,yW x y r _ _ _ _ _ _ (Gf lx ly lw),⟨gz,gp,⟨_,_,_,gq⟩,gj,gk,gl⟩,fun c hc=>?_,q⟩
   have le:s1.heap.objs.size<=c:=by
    simp only [GS,HL,or_false] at hc
    rcases hc with rfl | rfl | rfl | rfl | rfl | rfl
    ·exact HM _ _
    ·exact HM _ _
    ·exact HM _ _
    ·exact GQ _
    ·exact HM _ _
    ·exact HM _ _
   exact I1.lT le (I1.aW.fresh le)
end
theorem AD {K:GP}{a b c:Addr}{xs ys ws:List V}{g:TG}{tb:TS}{D:Ends}{GK : St}{H:Hp}(h1:xs.length<=ys.length)(h2:xs.length<=ws.length)(Pv:Nat->St->Hp->Prop)(h0:Pv 0 GK H)(hl:∀i GK H,i<=xs.length->Pv i GK H->av K H a xs/\av K H b ys/\av K H c ws)
  (hs:∀i x y r GK H t,xs[i]?=some x->ys[i]?=some y->ws[i]?=some r->H t=none->Pv i GK H->g (.ref t) GK (upd H t (.tup [x,y,r])) fun σ2 H2=>tb { D with nx:=Pv (i+1),ct:=Pv (i+1),bk:=D.nx } σ2 H2) (hd:∀GK H,Pv xs.length GK H->D.nx GK H) :
  ∃W:Nat->Nat->St->Hp->Prop,(∃m,W 0 m GK H)/\∀i m GK H,W i m GK H ->
   ((qO K a b c).stop i H/\D.nx GK H)\/((qO K a b c).go i H/\∃N:St->Hp->Prop,(∀σ' H',N σ' H'->∃m',m' < m/\W (i+1) m' σ' H')/\∀x H',(qO K a b c).wg i H x H'->g x GK H' fun σ2 H2=>tb { D with nx:=N,ct:=N,bk:=D.nx } σ2 H2):=by
 refine⟨fun i m GK H=>m=xs.length-i/\i<=xs.length/\Pv i GK H,⟨xs.length,by simp,Hg _,h0⟩,?_⟩
 rintro i m GK H ⟨rfl,hi,p⟩
 obtain⟨qa,qb,qc⟩:=hl i GK H hi p
 by_cases hlt:i<xs.length
 ·refine .inr ⟨⟨xs,ys,ws,xs[i],ys[i]'(by omega),ws[i]'(by omega),qa,qb,qc,by simp [hlt],by simp [show i<ys.length by omega],by simp [show i<ws.length by omega]⟩,Pv (i+1),fun σ' H' p'=>⟨xs.length-(i+1),by omega,rfl,hlt,p'⟩,fun v H' y=>?_⟩
  obtain⟨t,x,y,r,rfl,ht,rfl,h⟩:=y
  obtain⟨e1,e2,e3⟩:=h xs ys ws qa qb qc
  exact hs i x y r GK H t e1 e2 e3 ht p
 ·have e:i=xs.length:=by omega
  subst e
  exact .inl ⟨⟨xs,qa,GQ _⟩,hd GK H p⟩
mutual
inductive aY (H:Hp):V->PyData->Prop
 | bC:aY H .bC .none
 | bl (b:Bool):aY H (.bl b) (.bool b)
 | int (i:Int):aY H (.int i) (.int i)
 | str (x:Str):aY H (.str x) (.str x)
 | lst {p:Addr} {xs:List V} {ds:List PyData}:H p=some (.lst xs)->aX H xs ds->aY H (.ref p) (.list ds)
 | tup {p:Addr} {xs:List V} {ds:List PyData}:H p=some (.tup xs)->aX H xs ds->aY H (.ref p) (.tuple ds)
inductive aX (H:Hp):List V->List PyData->Prop
 | nil:aX H [] []
 | cons {x:V} {xs:List V} {d:PyData} {ds:List PyData}:aY H x d->aX H xs ds->aX H (x::xs) (d::ds)
end
section
variable {P:Program}{w:World}{H:Hp}{h:Heap}
mutual
theorem aY.reads (ok:d7 P w H h):∀{x:V} {d:PyData} {v:Value},aY H x d->RelV x v->∃as,Reads h v d as
 | _,_,v,.bC,r=>by
  cases (show v=Value.none from r)
  exact⟨_,.none⟩
 | _,_,v,.bl b,r=>by
  cases (show v=Value.bool b from r)
  exact⟨_,.bool b⟩
 | _,_,v,.int i,r=>by
  obtain⟨t,e⟩:=(show ∃t,v=Value.int i t from r)
  cases e
  exact⟨_,.int i t⟩
 | _,_,v,.str x,r=>by
  obtain⟨t,e⟩:=(show ∃t,v=Value.str x t from r)
  cases e
  exact⟨_,.str x t⟩
 | _,_,v,.lst (p:=p) (xs:=xs) e ds,r=>by
  cases (show v=Value.ref p from r)
  obtain⟨_,its,n,rv,h1⟩:=(show cy P w H h p (.lst xs) from ok p _ e)
  obtain⟨as,ra⟩:=aX.reads ok ds rv
  exact⟨_,.list (vs:=its.toArray) h1 rfl rfl (by simpa using ra)⟩
 | _,_,v,.tup (p:=p) (xs:=xs) e ds,r=>by
  cases (show v=Value.ref p from r)
  obtain⟨_,its,rv,o,h1,h2,n,h3⟩:=(show cy P w H h p (.tup xs) from ok p _ e)
  obtain⟨as,ra⟩:=aX.reads ok ds rv
  exact⟨_,.tuple (vs:=its.toArray) h1 h2 h3.1 (by simpa using ra)⟩
theorem aX.reads (ok:d7 P w H h):∀{xs:List V} {ds:List PyData} {vs:List Value},aX H xs ds->Vals xs vs->∃as,ReadsAll h vs ds as
 | _,_,_,.nil,.nil=>⟨_,.nil⟩
 | _,_,_,.cons r rs,.cons q qs=>by
  obtain⟨as,ra⟩:=aY.reads ok r q
  obtain⟨bs,rb⟩:=aX.reads ok rs qs
  exact⟨_,.cons ra rb⟩
end
end
section
variable {X:Cx}
def Ek (neg:Bool):R2:=fun x y H Q=>∃dx dy,aY H x dx/\aY H y dy/\dx.canLay0=true/\dy.canLay0=true/\min dx.depth dy.depth<=60/\Q (.bl (if neg then !PyData.eqv dx dy else PyData.eqv dx dy)) H
theorem yX (hu:X.A.units+64<cLine):dX X (compareOp .Eq) (Ek false):=by
 intro pins s GK H x y v u Q I rx ry h
 obtain⟨dx,dy,r1,r2,c1,c2,hd,q⟩:=h
 obtain⟨as,ra⟩:=r1.reads I.aW rx
 obtain⟨bs,rb⟩:=r2.reads I.aW ry
 exact PySem.SeqAt.compareEq_reads ra rb c1 c2 (by omega) ⟨.bl _,H,I,rfl,q⟩
theorem pE (hu:X.A.units+64<cLine):dX X (compareOp .NotEq) (Ek true):=by
 intro pins s GK H x y v u Q I rx ry h
 obtain⟨dx,dy,r1,r2,c1,c2,hd,q⟩:=h
 obtain⟨as,ra⟩:=r1.reads I.aW rx
 obtain⟨bs,rb⟩:=r2.reads I.aW ry
 exact PySem.SeqAt.neOverData X.prog X.w X.A X.xe s v u dx dy as bs _ ra rb c1 c2 (by omega) ⟨.bl _,H,I,rfl,q⟩
end
def one (c:Nat):Str:=⟨#[c]⟩
theorem uw (rest:List Str):∀a:Array Nat,(rest.foldl (fun acc p=>acc++Str.empty.cps++p.cps) a).toList=a.toList++rest.flatMap (·.cps.toList):=by
 induction rest with
 | nil=>intro a;simp
 | cons x r ih =>
  intro a
  rw [Iu,ih]
  have e:Str.empty.cps = #[]:=rfl
  simp [e]
theorem join_ones (cs:List Nat):(Txt.join Str.empty (cs.map one)).cps.toList=cs:=by
 cases cs with
 | nil=>rfl
 | cons c r =>
  show (List.foldl (fun acc p=>acc++Str.empty.cps++p.cps) (#[c]:Array Nat) (r.map one)).toList=c::r
  rw [uw]
  simp only [List.flatMap_map,one]
  simp
theorem AE:Str.ofString "" = Str.empty:=by decide +kernel
theorem xN {ys:List Str}:∀{us:List Value},Vals (ys.map V.str) us->StrsAre us ys:=by
 induction ys with
 | nil=>intro us r;cases r;exact .nil
 | cons y ys ih =>
  intro us r
  cases r with
  | cons h t =>
   obtain⟨k,e⟩:=h
   subst e
   exact .cons y k (ih t)
section
variable {X:Cx}
def rJoin (K:GP):V->List V->Hp->VK->Prop:=fun x vs H Q=>∃(z:Str) (p:Addr) (ys:List Str),x=.str z/\vs=[.ref p]/\aU K H p (ys.map V.str)/\(ys.map (·.length)).sum+ys.length*z.length<=16777216/\Q (.str (Txt.join z ys)) H
theorem wG:DS X "str.join" (rJoin X.K):=by
 intro pins s GK H x vs v us Q I rx rv h
 obtain⟨z,p,ys,rfl,rfl,hS,hz,q⟩:=h
 obtain⟨t,e⟩:=(show ∃t,v=Value.str z t from rx)
 subst e
 obtain⟨u,rfl,ru⟩:=vals1 rv
 cases (show u=Value.ref p from ru)
 obtain⟨its,rv',pl,_⟩:=I.list hS
 exact join_list pl.isList (by simpa using xN rv') hz fun t' k=>⟨.str _,H,I.tok k,⟨_,rfl⟩,q⟩
end
inductive cf where
 | put (x:Str) (n:Int)
 | copy (x y:Str)
 | add (x:Str) (n:Int)
 | read (x:Str)
 | tell (x:Str)
inductive End where
 | stop
 | go (p:Nat)
 | bu (less:Bool) (x:Str) (n:Int) (p q:Nat)
abbrev Piece:=List cf×End
def wT (b:Bool):Str:=if b=true then "less" else "is"
def bG:cf->PyData
 | .put x n=>.tuple [.str "put",.str x,.int n]
 | .copy x y=>.tuple [.str "copy",.str x,.str y]
 | .add x n=>.tuple [.str "add",.str x,.int n]
 | .read x=>.tuple [.str "read",.str x]
 | .tell x=>.tuple [.str "tell",.str x]
def eD:End->PyData
 | .stop=>.tuple [.str "stop"]
 | .go p=>.tuple [.str "go",.int p]
 | .bu b x n p q=>.tuple [.str (wT b),.str x,.int n,.int p,.int q]
def dY (p:Piece):PyData:=.tuple [.tuple (p.1.map bG),eD p.2]
def dM (ps:List Piece):PyData:=.tuple (ps.map dY)
structure eO (x:Str):Prop where
 lo:1<=x.length
 hi:x.length<=8
 az:∀c∈x.cps.toList,97<=c/\c<=122
def kq (n:Int):Prop:=-(10 ^ 40)<n/\n<10 ^ 40
def fz (xs:List Str):cf->Prop
 | .put x n=>x∈xs/\kq n
 | .copy x y=>x∈xs/\y∈xs
 | .add x n=>x∈xs/\kq n
 | .read x=>x∈xs
 | .tell x=>x∈xs
def jw (xs:List Str)(count:Nat):End->Prop
 | .stop=>True
 | .go p=>p<count
 | .bu _ x n p q=>x∈xs/\kq n/\p<count/\q<count
structure cJ (xs:List Str) (most:Nat) (ps:List Piece):Prop where
 fk:∀p∈ps,p.1.length<=most/\∀d∈p.1,fz xs d
 ends:∀p∈ps,jw xs ps.length p.2
mutual
def cL:PyData->Bool
 | .list _=>false
 | .tuple xs=>cM xs
 | _=>true
def cM:List PyData->Bool
 | []=>true
 | x::xs=>cL x&&cM xs
end
mutual
theorem aY.aK {H H':Hp}(k:∀p xs,H p=some (.tup xs)->H' p=some (.tup xs)):∀{x:V} {d:PyData},aY H x d->cL d=true->aY H' x d
 | _,_,.bC,_=>.bC
 | _,_,.bl b,_=>.bl b
 | _,_,.int i,_=>.int i
 | _,_,.str x,_=>.str x
 | _,_,.lst _ _,h=>nomatch h
 | _,_,.tup e ds,h=>.tup (k _ _ e) (aX.aK k ds h)
theorem aX.aK {H H':Hp}(k:∀p xs,H p=some (.tup xs)->H' p=some (.tup xs)):∀{xs:List V} {ds:List PyData},aX H xs ds->cM ds=true->aX H' xs ds
 | _,_,.nil,_=>.nil
 | _,_,.cons r rs,h=>by
  simp only [cM,Hb] at h
  exact .cons (aY.aK k r h.1) (aX.aK k rs h.2)
end
theorem aY.fix {b:Addr}{H H':Hp}{x:V}{d:PyData}(r:aY H x d)(hb:bU H b)(f:Fix b H H')(n:cL d=true):aY H' x d :=
 r.aK (fun p xs e=>f p _ e (hb.bI e)) n
theorem aY.same {H H':Hp}{x:V}{d:PyData}(r:aY H x d)(f:ao H H')(n:cL d=true):aY H' x d :=
 r.aK (fun p xs e=>f p _ e) n
theorem aX.fix {b:Addr}{H H':Hp}{xs:List V}{ds:List PyData}(r:aX H xs ds)(hb:bU H b)(f:Fix b H H')(n:cM ds=true):aX H' xs ds :=
 r.aK (fun p xs e=>f p _ e (hb.bI e)) n
theorem aX.same {H H':Hp}{xs:List V}{ds:List PyData}(r:aX H xs ds)(f:ao H H')(n:cM ds=true):aX H' xs ds :=
 r.aK (fun p xs e=>f p _ e) n
theorem aX.put {H:Hp}{xs ys:List V}{ds:List PyData}{l:Addr}{o:HO}(r:aX H xs ds)(hl:H l=some (.lst ys))(n:cM ds=true):aX (upd H l o) xs ds :=
 r.aK (fun p zs e=>by rw [au (bN e hl (by intro z;cases z))];exact e) n
theorem aX.app {H:Hp}{x:V}{d:PyData}:∀{xs:List V} {ds:List PyData},aX H xs ds->aY H x d->aX H (xs++[x]) (ds++[d])
 | _,_,.nil,q=>.cons q .nil
 | _,_,.cons r rs,q=>.cons r (aX.app rs q)
theorem aX.len {H:Hp}:∀{xs:List V} {ds:List PyData},aX H xs ds->xs.length=ds.length
 | _,_,.nil=>rfl
 | _,_,.cons _ rs=>by simp [aX.len rs]
theorem nU (d:cf):cL (bG d)=true:=by cases d <;> rfl
theorem ku (e:End):cL (eD e)=true:=by cases e <;> rfl
theorem bH:∀ds:List cf,cM (ds.map bG)=true
 | []=>rfl
 | d::ds=>by show (cL (bG d)&&cM (ds.map bG))=true;rw [nU,bH ds];rfl
theorem je (p:Piece):cL (dY p)=true:=by
 show (cM (p.1.map bG)&&(cL (eD p.2)&&true))=true
 rw [bH,ku];rfl
theorem cD:∀ps:List Piece,cM (ps.map dY)=true
 | []=>rfl
 | p::ps=>by show (cL (dY p)&&cM (ps.map dY))=true;rw [je,cD ps];rfl
theorem bR (ps:List Piece):cL (dM ps)=true:=cD ps
structure fV (H:Hp) (b l:Addr) (xs:List Str):Prop where
 at_:H l=some (.lst (xs.map V.str))
 ne:l≠b
 xO:xs≠[]
 bB:xs.length<=1000
 ok:∀x∈xs,eO x
theorem fV.fix {H H':Hp}{b l:Addr}{xs:List Str}(h:fV H b l xs)(f:Fix b H H'):fV H' b l xs:=⟨f l _ h.at_ h.ne,h.ne,h.xO,h.bB,h.ok⟩
theorem fV.pos {H:Hp}{b l:Addr}{xs:List Str}(h:fV H b l xs):0<((xs.map V.str).length:Int)/\((xs.map V.str).length:Int)<1073741824:=by
 have h1:=h.xO
 have h2:=h.bB
 have h3:0<xs.length:=by cases xs with | nil=>exact absurd rfl h1 | cons _ _=>simp
 rw [GO]
 omega
def wH:Sp:=fun vs H Q _=>∃(b:Addr),vs=[.ref b]/\bU H b/\∀l xs H',fV H' b l xs->xs.length<=4->bU H' b->Fix b H H'->Q (.ref l) H'
def ky:Sp:=fun vs H Q _=>∃(b:Addr),vs=[.ref b]/\bU H b/\∀n H',kq n->bU H' b->Fix b H H'->Q (.int n) H'
def yY:Sp:=fun vs H Q _=>∃(b l:Addr) (xs:List Str),vs=[.ref b,.ref l]/\bU H b/\fV H b l xs/\∀v d H',aY H' v (bG d)->fz xs d->bU H' b->Fix b H H'->Q v H'
def yZ:Sp:=fun vs H Q _=>∃(b l:Addr) (xs:List Str) (c:Nat),vs=[.ref b,.ref l,.int c]/\bU H b/\fV H b l xs/\0<c/\c<1073741824/\∀v e H',aY H' v (eD e)->jw xs c e->bU H' b->Fix b H H'->Q v H'
def y3:Sp:=fun vs H Q _=>∃(b:Addr) (c m:Nat),vs=[.ref b,.int c,.int m]/\bU H b/\0<c/\c<=1000/\m<=1000/\∀v xs ps H',aY H' v (dM ps)->ps.length=c->cJ xs m ps->((∀x∈xs,eO x)/\xs.length<=4)->bU H' b->Fix b H H'->Q v H'
def wI:Sp:=fun vs H Q _=>∃(b:Addr) (m:Nat),vs=[.ref b,.int m]/\bU H b/\0<m/\m<=1000/\∀(n:Nat) H',0<n->n<=max m 4->bU H' b->Fix b H H'->Q (.int n) H'
def pF:Str := "abcdefghijklmnopqrstuvwxyz"
theorem ux:pF.cps.toList=(Hs 26).map (· + 97):=by decide +kernel
theorem wJ:pF.length<=sizeLine:=by decide +kernel
theorem y4 {r:Int}(h0:0<=r)(h1:r<26):∃c,eV pF.cps.toList r=some c/\97<=c/\c<=122:=by
 have hl:pF.cps.toList.length=26:=by rw [ux];simp
 obtain⟨c,hc,hm⟩:=xM (xs:=pF.cps.toList) h0 (by rw [hl];exact h1)
 refine⟨c,hc,?_⟩
 rw [ux] at hm
 obtain⟨k,hk,rfl⟩:=G4.mp hm
 have:=Ig.mp hk
 omega
theorem kA {xs:List Str}{r:Int}(h0:0<=r)(h1:r<((xs.map V.str).length:Int)):∃x,eV (xs.map V.str) r=some (V.str x)/\x∈xs:=by
 obtain⟨v,hv,hm⟩:=xM h0 h1
 obtain⟨x,hx,rfl⟩:=G4.mp hm
 exact⟨x,hv,hx⟩
theorem gK {GK : L2.St}{H:Hp}{Q:Bool->Hp->Prop}(h:Q true H):Ee GK H Q:=h
theorem cY {i:Nat}{v:V}{GK : L2.St}{H:Hp}{Q:L2.St->Hp->Prop}(h:Q (GK.set i (some v)) H):tR i v GK H Q:=h
section
variable {κ : Type}[DecidableEq κ]
def cg (kvs:List (κ×V))(k:κ):Option V:=(kvs.find? fun kv=>decide (kv.1=k)).map (·.2)
def putK (kvs:List (κ×V))(k:κ)(v:V):List (κ×V) :=
 if (kvs.any fun kv=>decide (kv.1=k))=true then kvs.map (fun kv=>if kv.1=k then (kv.1,v) else kv) else kvs++[(k,v)]
def eW (kvs:List (κ×V))(k:κ):List (κ×V):=kvs.filter fun kv=>decide (kv.1≠k)
theorem dz {p:κ×V}{r:List (κ×V)}{k:κ}(e:p.1=k):cg (p::r) k=some p.2:=by simp [cg,Iv,e]
theorem df {p:κ×V}{r:List (κ×V)}{k:κ}(e:¬p.1=k):cg (p::r) k=cg r k:=by simp [cg,Iv,e]
theorem hR (k:κ):∀kvs:List (κ×V),(kvs.any fun kv=>decide (kv.1=k))=(cg kvs k).isSome
 | []=>rfl
 | p::r=>by
  rw [IG]
  by_cases e:p.1=k
  ·simp only [dz e,decide_eq_true e,Bool.true_or,Option.isSome_some]
  ·rw [df e,decide_eq_false e,Bool.false_or];exact hR k r
theorem uy (k j:κ)(y:V):∀kvs:List (κ×V),cg (kvs.map fun kv=>if kv.1=k then (kv.1,y) else kv) j=(cg kvs j).map fun x=>if j=k then y else x
 | []=>rfl
 | p::r=>by
  have ih:=uy k j y r
  rw [Hh]
  by_cases h:p.1=k
  ·rw [if_pos h]
   by_cases e:p.1=j
   ·rw [dz (p:=(p.1,y)) e,dz e,IK,if_pos (e.symm.trans h)]
   ·rw [df (p:=(p.1,y)) e,df e,ih]
  ·rw [if_neg h]
   by_cases e:p.1=j
   ·rw [dz (p:=p) e,dz e,IK,if_neg (fun z=>h (e.trans z))]
   ·rw [df (p:=p) e,df e,ih]
theorem sj (k j:κ)(y:V):∀kvs:List (κ×V),cg kvs k=none->cg (kvs++[(k,y)]) j=if j=k then some y else cg kvs j
 | [],_=>by
  by_cases e:k=j
  ·rw [if_pos e.symm];exact dz (p:=(k,y)) e
  ·rw [if_neg (fun z=>e z.symm)];exact df (p:=(k,y)) e
 | p::r,hn=>by
  rw [List.cons_append]
  have hk:¬p.1=k:=fun z=>by rw [dz z] at hn;cases hn
  rw [df hk] at hn
  have ih:=sj k j y r hn
  by_cases e:p.1=j
  ·rw [dz e,dz e,if_neg (fun z=>hk (e.trans z))]
  ·rw [df e,df e,ih]
theorem uz (kvs:List (κ×V))(k j:κ)(y:V):cg (putK kvs k y) j=if j=k then some y else cg kvs j:=by
 unfold putK
 by_cases a:(kvs.any fun kv=>decide (kv.1=k))=true
 ·rw [if_pos a,uy]
  rw [hR] at a
  by_cases e:j=k
  ·obtain⟨x,hx⟩:=Option.isSome_iff_exists.mp a
   rw [if_pos e,e,hx,IK,if_pos rfl]
  ·rw [if_neg e]
   cases cg kvs j with
   | none=>rfl
   | some x=>rw [IK,if_neg e]
 ·rw [if_neg a]
  refine sj k j y kvs ?_
  rw [hR] at a
  cases q:cg kvs k with
  | none=>rfl
  | some x=>rw [q] at a;exact (a rfl).elim
theorem fB (kvs:List (κ×V))(k:κ)(v:V):(putK kvs k v).length<=kvs.length+1:=by
 unfold putK
 split
 ·rw [GO];omega
 ·rw [GW,Hq,Ja];omega
theorem AF {kvs:List (κ×V)}{k:κ}(v:V)(h:cg kvs k=none):putK kvs k v=kvs++[(k,v)]:=by
 unfold putK
 rw [hR,h]
 exact if_neg (by decide)
theorem eY.y6 {o:Option V}{u:Option Value}(r:eY o u):o.isSome=u.isSome:=by
 cases o with
 | none=>cases u with
  | none=>rfl
  | some _=>exact (show False from r).elim
 | some _=>cases u with
  | none=>exact (show False from r).elim
  | some _=>rfl
theorem eY.getD {o:Option V}{u:Option Value}{d:V}{d':Value}(r:eY o u)(rd:RelV d d'):RelV (o.getD d) (u.getD d'):=by
 cases o with
 | none=>cases u with
  | none=>exact rd
  | some _=>exact (show False from r).elim
 | some _=>cases u with
  | none=>exact (show False from r).elim
  | some _=>exact r
theorem KV.val {kvs:List (κ×V)}{vs:List (κ×Value)}(r:KV kvs vs)(k:κ):eY (cg kvs k) (valueAt vs k):=by
 unfold KV at r
 induction r with
 | nil=>exact True.intro
 | @cons p q ps qs h t ih =>
  obtain⟨h1,h2⟩:=h
  by_cases e:p.1=k
  ·have e':q.1=k:=h1.symm.trans e
   have b:valueAt (q::qs) k=some q.2:=by simp [valueAt,Iv,e']
   rw [dz e,b];exact h2
  ·have e':¬q.1=k:=fun z=>e (h1.trans z)
   have b:valueAt (q::qs) k=valueAt qs k:=by simp [valueAt,Iv,e']
   rw [df e,b];exact ih
theorem KV.any {kvs:List (κ×V)}{vs:List (κ×Value)}(r:KV kvs vs)(k:κ):(kvs.any fun kv=>decide (kv.1=k))=vs.any fun kv=>decide (kv.1=k):=by
 unfold KV at r
 induction r with
 | nil=>rfl
 | cons h t ih=>rw [IG,IG,ih,h.1]
theorem KV.AG {kvs:List (κ×V)}{vs:List (κ×Value)}(r:KV kvs vs)(k:κ){y:V}{u:Value}(ry:RelV y u) :
  KV (kvs.map fun kv=>if kv.1=k then (kv.1,y) else kv) (vs.map fun kv=>if kv.1=k then (kv.1,u) else kv):=by
 unfold KV at r ⊢
 induction r with
 | nil=>exact .nil
 | @cons p q ps qs h t ih =>
  rw [Hh,Hh]
  refine .cons ?_ ih
  obtain⟨h1,h2⟩:=h
  by_cases e:p.1=k
  ·rw [if_pos e,if_pos (h1.symm.trans e)];exact⟨h1,ry⟩
  ·rw [if_neg e,if_neg (fun z=>e (h1.trans z))];exact⟨h1,h2⟩
theorem KV.put {kvs:List (κ×V)}{vs:List (κ×Value)}(r:KV kvs vs)(k:κ){y:V}{u:Value}(ry:RelV y u):KV (putK kvs k y) (stored vs k u):=by
 unfold putK stored
 rw [r.any k]
 by_cases e:(vs.any fun kv=>decide (kv.1=k))=true
 ·rw [if_pos e,if_pos e];exact r.AG k ry
 ·rw [if_neg e,if_neg e];exact Paired.snoc r ⟨rfl,ry⟩
theorem KV.drop {kvs:List (κ×V)}{vs:List (κ×Value)}(r:KV kvs vs)(k:κ):KV (eW kvs k) (without vs k):=by
 unfold KV at r ⊢
 unfold eW without
 induction r with
 | nil=>exact .nil
 | @cons p q ps qs h t ih =>
  obtain⟨h1,h2⟩:=h
  rw [Jc,Jc]
  by_cases e:p.1=k
  ·have a:¬decide (p.1≠k)=true:=by simp [e]
   have b:¬decide (q.1≠k)=true:=by simp [h1.symm.trans e]
   rw [if_neg a,if_neg b];exact ih
  ·have e':¬q.1=k:=fun z=>e (h1.trans z)
   have a:decide (p.1≠k)=true:=by simp [e]
   have b:decide (q.1≠k)=true:=by simp [e']
   rw [if_pos a,if_pos b];exact .cons ⟨h1,h2⟩ ih
theorem KV.keys {kvs:List (κ×V)}{vs:List (κ×Value)}(r:KV kvs vs):kvs.map (·.1)=vs.map (·.1):=by
 unfold KV at r
 induction r with
 | nil=>rfl
 | cons h t ih=>rw [Hh,Hh,ih,h.1]
theorem KV.length {kvs:List (κ×V)}{vs:List (κ×Value)}(r:KV kvs vs):kvs.length=vs.length:=Paired.length r
theorem AH (kvs:List (κ×V))(k:κ):(eW kvs k).length<=kvs.length:=HV _ _
end
theorem kB {P:Program}{w:World}{k:Key}{u:Value}(r:RelV (kV k) u):(aT P w).is k u=true:=by
 cases k with
 | inl i=>obtain⟨t,e⟩:=(show ∃t,u=Value.int i t from r);subst e;exact nO P w i t
 | inr x=>obtain⟨t,e⟩:=(show ∃t,u=Value.str x t from r);subst e;exact nP P w x t
theorem sr {P:Program}{w:World}:∀{ks:List Key} {us:List Value},Vals (ks.map kV) us->ItemsAre (aT P w) ks us
 | [],_,r=>by rw [List.map_nil] at r;cases r;exact .nil
 | k::ks,_,r=>by
  rw [Hh] at r
  cases r with
  | cons h t=>exact .cons (kB h) (sr t)
abbrev KT (H:Hp):List (List Key×V)->List (List Key×Addr×Value)->Prop:=Paired fun p q=>p.1=q.1/\H q.2.1=some (.tup (p.1.map kV))/\RelV p.2 q.2.2
theorem KT.val {H:Hp}{kvs:List (List Key×V)}{xs:List (List Key×Addr×Value)}(r:KT H kvs xs)(k:List Key):eY (cg kvs k) ((atKey xs k).map (·.2)):=by
 induction r with
 | nil=>exact True.intro
 | @cons p q ps qs h t ih =>
  obtain⟨h1,_,h2⟩:=h
  by_cases e:p.1=k
  ·have e':q.1=k:=h1.symm.trans e
   have b:atKey (q::qs) k=some q.2:=by simp [atKey,Iv,e']
   rw [dz e,b];exact h2
  ·have e':¬q.1=k:=fun z=>e (h1.trans z)
   have b:atKey (q::qs) k=atKey qs k:=by simp [atKey,Iv,e']
   rw [df e,b];exact ih
theorem KT.AG {H:Hp}{kvs:List (List Key×V)}{xs:List (List Key×Addr×Value)}(r:KT H kvs xs)(k:List Key){y:V}{u:Value}(ry:RelV y u) :
  KT H (kvs.map fun kv=>if kv.1=k then (kv.1,y) else kv) (xs.map (putAt k u)):=by
 induction r with
 | nil=>exact .nil
 | @cons p q ps qs h t ih =>
  rw [Hh,Hh]
  refine .cons ?_ ih
  obtain⟨h1,h2,h3⟩:=h
  unfold putAt
  by_cases e:p.1=k
  ·rw [if_pos e,if_pos (h1.symm.trans e)];exact⟨h1,h2,ry⟩
  ·rw [if_neg e,if_neg (fun z=>e (h1.trans z))];exact⟨h1,h2,h3⟩
theorem KT.put {H:Hp}{kvs:List (List Key×V)}{xs:List (List Key×Addr×Value)}(r:KT H kvs xs)(k:List Key){b:Addr}{y:V}{u:Value}(hb:H b=some (.tup (k.map kV)))(ry:RelV y u) :
  KT H (putK kvs k y) (storedH xs k b u):=by
 have e:(kvs.any fun kv=>decide (kv.1=k))=(atKey xs k).isSome:=by
  rw [hR,(r.val k).y6,Option.isSome_map]
 unfold putK storedH
 rw [e]
 by_cases q:(atKey xs k).isSome=true
 ·rw [if_pos q,if_pos q];exact r.AG k ry
 ·rw [if_neg q,if_neg q];exact Paired.snoc r ⟨rfl,hb,ry⟩
theorem KT.keeps {H H':Hp}{kvs:List (List Key×V)}{xs:List (List Key×Addr×Value)}(r:KT H kvs xs)(ht:∀b ys,H b=some (.tup ys)->H' b=some (.tup ys)):KT H' kvs xs :=
 Paired.Ac r fun _ _ z=>⟨z.1,ht _ _ z.2.1,z.2.2⟩
section
variable {P:Program}{w:World}{H:Hp}{h:Heap}{a:Addr}
theorem Cm {u:HO}(ok:d7 P w H h)(e:Rd H a u):cy P w H h a u:=e.ok ok
theorem ni {kvs:List (Key×V)}(ok:d7 P w H h)(e:Rd H a (.dK kvs)):kvs.length<=sizeLine/\(a == sysModules)=false/\∃vs,KV kvs vs/\h.DictOf (aT P w) a vs :=
 show cy P w H h a (.dK kvs) from Cm ok e
theorem pG {kvs:List (Key×V)}(ok:d7 P w H h)(e:H a=some (.dK kvs)):kvs.length<=sizeLine/\(a == sysModules)=false/\∃vs,KV kvs vs/\h.DictOf (aT P w) a vs:=ni ok (.inl e)
theorem pH {ks:List Key}(ok:d7 P w H h)(e:H a=some (.tup (ks.map kV))):(tupleKind (aT P w)).is h ks a:=by
 obtain⟨_,its,r,o,h1,h2,n,h3⟩:=(show cy P w H h a (.tup (ks.map kV)) from ok a _ e)
 exact⟨o,its.toArray,n,h1,h2,h3.1,by simpa using sr r⟩
theorem pI {kvs:List (List Key×V)}(ok:d7 P w H h)(e:Rd H a (.dT kvs)):kvs.length<=sizeLine/\(a == sysModules)=false /\
  ∃xs,KT H kvs xs/\h.DictOfH (tupleKind (aT P w)) a xs:=by
 obtain⟨z,y,xs,r,o,es,ep,h1,h2,h3,h4,h5⟩:=(show cy P w H h a (.dT kvs) from Cm ok e)
 refine⟨z,y,xs,r,o,es,ep,h1,h2,h3,h4,fun x hx=>?_,h5⟩
 have all:∀{l:List (List Key×V)} {m:List (List Key×Addr×Value)},KT H l m->∀x∈m,(tupleKind (aT P w)).is h x.1 x.2.1:=by
  intro l m q
  induction q with
  | nil=>intro x hx;exact nomatch hx
  | @cons p q ps qs hq t ih =>
   intro x hx
   rcases GS.mp hx with e | hx
   ·subst e
    exact pH ok (by rw [<-hq.1];exact hq.2.1)
   ·exact ih x hx
 exact all r x hx
theorem E9 {kvs:List (List Key×V)}(ok:d7 P w H h)(e:H a=some (.dT kvs)):kvs.length<=sizeLine/\(a == sysModules)=false /\
  ∃xs,KT H kvs xs/\h.DictOfH (tupleKind (aT P w)) a xs:=pI ok (.inl e)
end
def dP (H:Hp)(a:Addr)(y:V)(r:Option V):Prop :=
 (∃kvs k,Rd H a (.dK kvs)/\y=kV k/\r=cg kvs k)\/∃kvs k b,Rd H a (.dT kvs)/\y=.ref b/\H b=some (.tup (k.map kV))/\r=cg kvs k
def hV (H:Hp)(a:Addr)(y v:V)(H':Hp):Prop :=
 (∃kvs k,H a=some (.dK kvs)/\y=kV k/\kvs.length<sizeLine/\H' = upd H a (.dK (putK kvs k v))) \/
 ∃kvs k b,H a=some (.dT kvs)/\y=.ref b/\H b=some (.tup (k.map kV))/\kvs.length<sizeLine/\H' = upd H a (.dT (putK kvs k v))
theorem dP.k {H:Hp}{a:Addr}{kvs:List (Key×V)}{k:Key}(e:H a=some (.dK kvs)):dP H a (kV k) (cg kvs k):=.inl ⟨kvs,k,.inl e,rfl,rfl⟩
theorem hV.k {H:Hp}{a:Addr}{kvs:List (Key×V)}{k:Key}{v:V}(e:H a=some (.dK kvs))(hl:kvs.length<sizeLine):hV H a (kV k) v (upd H a (.dK (putK kvs k v))):=.inl ⟨kvs,k,e,rfl,hl,rfl⟩
section
variable {X:Cx}{pins:List (Addr×Obj)}{GK : St}{H:Hp}{s:Shared}{a:Addr}{y v:V}{u r:Value}{o:Option V}{A:Around}{E:Value->Shared->Prop}
theorem Inv.big (I:Inv X pins GK H s):sysModules<s.heap.objs.size:=by
 have h:mainGlobals<s.heap.objs.size:=(I.mod.glob.keeps I.bk).lt
 exact Jd (by decide) h
theorem y7 {Q:Value->Shared->Prop}(hu:A.units+1<cLine)(I:Inv X pins GK H s)(g:dP H a y (some v))(ry:RelV y u)(h:∀w' s',Inv X pins GK H s'->RelV v w'->Q w' s') :
  wpAny (model X.prog X.w) A (getItem (.ref a) u) Q E s:=by
 rcases g with ⟨kvs,k,e,ey,l⟩ | ⟨kvs,k,b,e,ey,eb,l⟩
 ·subst ey
  obtain⟨z,hd,vs,rel,dd⟩:=ni I.aW e
  obtain⟨w',hw,rw'⟩:=eY.some_of (v:=v) (o:=valueAt vs k) (by rw [l];exact rel.val k)
  exact wpAny_getItem_of (kB ry) dd.mapOf hw (h w' _ (I.tok _) rw')
 ·subst ey
  cases (show u=Value.ref b from ry)
  obtain⟨z,hd,xs,rel,dd⟩:=pI I.aW e
  obtain⟨w',hw,rw'⟩:=eY.some_of (v:=v) (o:=(atKey xs k).map (·.2)) (by rw [l];exact rel.val k)
  obtain⟨p,hp,hp2⟩:=Option.map_eq_some_iff.mp hw
  refine wpAny_getItem_heap (tupleKind_room_in1 hu) (pH I.aW eb) dd hp ?_
  rw [hp2]
  exact h w' _ (I.tok _) rw'
theorem qP {h':Heap}{t':Nat}{ob:HO}(I:Inv X pins GK H s)(mu:yA (H a))(hs:Hk a s.heap h')(he:∃q,h'.get? a=some q)(new:cy X.prog X.w (upd H a ob) h' a ob) :
  Inv X pins GK (upd H a ob) { s with heap:=h',toks:=t' } :=
 I.write (x:=a) (e:=a) mu (.inl rfl) (fun b q hb z=>(hs.2 b hb).trans z) he new
theorem mn {P:Program}{w:World}{H':Hp}{h':Heap}{kvs:List (Key×V)}{vs:List (Key×Value)}(z:kvs.length<=sizeLine)(hd:(a == sysModules)=false)(rel:KV kvs vs)(dd:h'.DictOf (aT P w) a vs) :
  cy P w H' h' a (.dK kvs):=⟨z,hd,vs,rel,dd⟩
theorem y8 {H':Hp}{Q:Unit->Shared->Prop}(hu:A.units+1<cLine)(I:Inv X pins GK H s)(g:hV H a y v H')(ry:RelV y u)(rv:RelV v r)(h:∀s',Inv X pins GK H' s'->Q () s') :
  wpAny (model X.prog X.w) A (setItem (.ref a) u r) Q E s:=by
 rcases g with ⟨kvs,k,e,ey,l,eH⟩ | ⟨kvs,k,b,e,ey,eb,l,eH⟩
 ·subst ey eH
  obtain⟨z,hd,vs,rel,dd⟩:=pG I.aW e
  have hz:vs.length<=sizeLine:=by rw [<-rel.length];exact z
  have hl:(putK kvs k v).length<=sizeLine:=by have:=fB kvs k v;omega
  refine wpAny_setItem_pairs (hsz:=hz) (kB ry) dd fun h' dd' hs=>h _ ?_
  have he:∃q,h'.get? a=some q:=let ⟨q,_,_,hq,_⟩:=dd';⟨q,hq⟩
  exact qP I (by rw [e];exact True.intro) hs he (mn hl hd (rel.put k rv) dd')
 ·subst ey eH
  cases (show u=Value.ref b from ry)
  obtain⟨z,hd,xs,rel,dd⟩:=E9 I.aW e
  have hz:xs.length<=sizeLine:=by rw [<-Paired.length rel];exact z
  have hl:(putK kvs k v).length<=sizeLine:=by have:=fB kvs k v;omega
  refine wpAny_setItem_heap (hsz:=hz) (tupleKind_room_in1 hu) (pH I.aW eb) dd fun h' dd' hs=>h _ ?_
  obtain⟨q,es,ep,hq,h2,h3,h4,_,h5⟩:=dd'
  refine qP I (by rw [e];exact True.intro) hs ⟨q,hq⟩ ⟨hl,hd,_,(rel.put k eb rv).keeps fun c ys ec=>?_,q,es,ep,hq,h2,h3,h4,h5⟩
  rw [au (bN ec e (fun z=>nomatch z))]
  exact ec
end
section
variable {X:Cx}{pins:List (Addr×Obj)}{GK : St}{H:Hp}{s:Shared}{a:Addr}{kvs:List (Key×V)}{k:Key}{u:Value}{A:Around}{E:Value->Shared->Prop}
theorem Fb {v:V}{more:List Value}{Q:Value->Shared->Prop}(I:Inv X pins GK H s)(e:H a=some (.dK kvs))(ry:RelV (kV k) u)(l:cg kvs k=some v)(hm:more=[]\/∃x,more=[x])
  (h:∀w' s',Inv X pins GK (upd H a (.dK (eW kvs k))) s'->RelV v w'->Q w' s'):wpAny (model X.prog X.w) A (call (.builtin "dict.pop") (.ref a::u::more)) Q E s:=by
 obtain⟨z,hd,vs,rel,dd⟩:=pG I.aW e
 obtain⟨w',hw,rw'⟩:=eY.some_of (v:=v) (o:=valueAt vs k) (by rw [<-l];exact rel.val k)
 have hp:(keyPart u).isSome=true:=by
  cases k with
  | inl i=>obtain⟨t,q⟩:=(show ∃t,u=Value.int i t from ry);subst q;rfl
  | inr x=>obtain⟨t,q⟩:=(show ∃t,u=Value.str x t from ry);subst q;rfl
 have ha:argsOk "dict.pop" ⟨.ref a::u::more,[]⟩:=by
  rcases hm with q | ⟨x,q⟩
  ·subst q;exact PySem.F.args_dict_pop_2 _ _
  ·subst q;exact PySem.F.args_dict_pop_3 _ _ _
 refine call_meetsIn PySem.F.slot_dict_pop dd.typeIs PySem.F.entry_dict_pop ha (meets_dict_pop_there (aT X.prog X.w) a (kB ry) more hm hp)
  ⟨vs,w',dd,by rw [<-rel.length];exact z,hw,fun h' dd' hs=>h w' _ ?_ rw'⟩
 have he:∃q,h'.get? a=some q:=let ⟨q,_,_,hq,_⟩:=dd';⟨q,hq⟩
 exact qP I (by rw [e];exact True.intro) hs he (mn (GY (AH kvs k) z) hd (rel.drop k) dd')
theorem El {r:Value}{Q:Value->Shared->Prop}(I:Inv X pins GK H s)(e:H a=some (.dK kvs))(ry:RelV (kV k) u)(l:cg kvs k=none)(h:∀s',Inv X pins GK H s'->Q r s') :
  wpAny (model X.prog X.w) A (call (.builtin "dict.pop") [.ref a,u,r]) Q E s:=by
 obtain⟨z,hd,vs,rel,dd⟩:=pG I.aW e
 have hn:valueAt vs k=none:=eY.none_of (by rw [<-l];exact rel.val k)
 have hp:(keyPart u).isSome=true:=by
  cases k with
  | inl i=>obtain⟨t,q⟩:=(show ∃t,u=Value.int i t from ry);subst q;rfl
  | inr x=>obtain⟨t,q⟩:=(show ∃t,u=Value.str x t from ry);subst q;rfl
 exact call_meetsIn PySem.F.slot_dict_pop dd.typeIs PySem.F.entry_dict_pop (PySem.F.args_dict_pop_3 _ _ _) (meets_dict_pop_default (aT X.prog X.w) a (kB ry) hd hp r) ⟨vs,dd,hn,h _ (I.tok _)⟩
end
def xP (i:Expr):Prop:=∀ov iv,subscripted i false ov iv=operate [ov,iv] (getItem ov iv)
theorem qQ {prog:Program}{w:World}{A:Around}{E:Value->Shared->Prop}{s:Shared}{env:Env}{value slice:Expr}{pos:Pos}{T id:String}{Q:Value->Shared->Prop}
  (hl:typeLookup (.type T) "__getitem__" = pure (some (.builtin id))) (hs:xP slice)
  (h:wpAny (model prog w) A (eval value env) (fun o s₁=>wpAny (model prog w) A (eval slice env) (fun i s₂=>s₂.TypeIs o T/\wpAny (model prog w) A (getItem o i) Q E s₂) E s₁) E s) :
  wpAny (model prog w) A (eval (.Subscript value slice pos) env) Q E s:=by
 refine Subscript_ (Jz h (fun o s₁ h₁=>Jz h₁ (fun i s₂ h₂=>?_) fun _ _ x=>x) fun _ _ x=>x)
 obtain⟨hT,h₂⟩:=h₂
 unfold subscriptTail
 refine Jx ?_
 rw [getitemInPython_of_ne hT.not_modules]
 refine Jx (wpAny_specialOf hT hl ?_)
 have fin:wpAny (model prog w) A (subscripted slice false o i) (fun r s₃=>wpAny (model prog w) A (letTemporaryGo value o r >>= fun _=>pure r) Q E s₃) E s₂:=by
  rw [hs o i]
  exact wpAny_operating (Jz h₂ (fun r s₃ h₃=>Jx (wpAny_letTemporaryGo (Jy h₃))) fun _ _ x=>x)
 first
  | exact Jy (Jx fin)
  | exact Jx (Jy (Jx fin))
  | exact Jx fin
theorem vE {X:Cx} {pins:List (Addr×Obj)} {GK : St} {H:Hp} {s:Shared} {a:Addr} {y:V} {o:Option V} (I:Inv X pins GK H s) (g:dP H a y o):s.TypeIs (.ref a) "dict" := by
 rcases g with ⟨kvs,k,e,_,_⟩ | ⟨kvs,k,b,e,_,_,_⟩
 ·obtain⟨_,_,vs,_,dd⟩:=ni I.aW e
  exact dd.typeIs
 ·obtain⟨_,_,xs,_,dd⟩:=pI I.aW e
  exact dd.typeIs
def Fc (td ty:TE):TE:=fun GK H Q=>td GK H fun x H1=>ty GK H1 fun y H2=>∃a v,x=.ref a/\dP H2 a y (some v)/\Q v H2
def Fd (td ty tv:TE):TS:=fun D GK H=>tv GK H fun v H1=>td GK H1 fun x H2=>ty GK H2 fun y H3=>∃a H4,x=.ref a/\hV H3 a y v H4/\D.nx GK H4
section
variable {X:Cx}{o i e value:Expr}{pos pos' tpos:Pos}{td ty tv:TE}
theorem nj (hu:X.A.units+1<cLine)(ho:PE X o td)(hi:PE X i ty)(hs:xP i):PE X (.Subscript o i pos) (Fc td ty):=by
 intro pins s GK H Q I h
 refine qQ PySem.F.slot_dict_getitem.lookup hs (bg (ho pins s GK H _ I h) fun u s1 ⟨x,H1,I1,rx,q1⟩=>bg (hi pins s1 GK H1 _ I1 q1) fun iv s2 ⟨y,H2,I2,ry,a,v,ex,g,q2⟩=>?_)
 subst ex
 obtain rfl:u=Value.ref a:=rx
 exact⟨vE I2 g,y7 hu I2 g ry fun w' s3 I3 rw'=>⟨v,H2,I3,rw',q2⟩⟩
theorem fW (hu:X.A.units+1<cLine)(ho:PE X o td)(hi:PE X i ty)(hv:PE X value tv)(hs:swapsWith value (some (.Subscript o i pos')) pos.line X.env=pure false) :
  PS X (.Assign [.Subscript o i pos'] value pos) (Fd td ty tv):=by
 intro pins s GK H D I h
 refine wpAny_Assign_Subscript (bg (hv pins s GK H _ I h) fun r s1 ⟨v,H1,I1,rv,q1⟩=>bg (ho pins s1 GK H1 _ I1 q1) fun u s2 ⟨x,H2,I2,rx,q2⟩=>bg (hi pins s2 GK H2 _ I2 q2) fun iv s3 ⟨y,H3,I3,ry,a,H4,ex,g,q3⟩=>?_) hs
 subst ex
 obtain rfl:u=Value.ref a:=rx
 exact y8 hu I3 g ry rv fun s4 I4=>⟨GK,H4,I4,q3⟩
end
theorem uA {P:Program}{w:World}{H:Hp}(h:Heap)(hb:sysModules<h.objs.size):cy P w H (h.push { cls:=.type "dict",data:=.dict #[] }) h.objs.size (.dK []) :=
 ⟨Hg _,beq_eq_false_iff_ne.mpr (Ne.symm (G0 hb)),[],.nil,Heap.DictOf.new h⟩
def Em:TE:=fun _ H Q=>∀p,H p=none->Q (.ref p) (upd H p (.dK []))
section
variable {X:Cx}{pos:Pos}
theorem kC:PE X (.Dict [] [] pos) Em:=fun pins s GK H Q I h =>
 wpAny_Dict_empty ⟨.ref s.heap.objs.size,_,I.laid (a:=s.heap.objs.size) (o:=.dK []) (t':=s.toks) (fun _ _ q=>GV _ q) (GQ _) (uA s.heap I.big),rfl,h _ (I.aW.fresh (GQ _))⟩
end
def uB:List (TE×TE)->St->Hp->(List (V×V)->Hp->Prop)->Prop
 | [],_,H,Q=>Q [] H
 | (tk,tv)::r,GK,H,Q=>tk GK H fun x H1=>tv GK H1 fun y H2=>uB r GK H2 fun ps H3=>Q ((x,y)::ps) H3
abbrev VV:List (V×V)->List (Value×Value)->Prop:=Paired fun p q=>RelV p.1 q.1/\RelV p.2 q.2
def Cn (X:Cx)(pos:Pos)(keys:List (Option Expr))(values:List Expr)(trs:List (TE×TE)):Prop :=
 ∀(pins:List (Addr×Obj)) (s:Shared) (GK : St) (H:Hp) (Q:List (V×V)->Hp->Prop),Inv X pins GK H s->uB trs GK H Q ->
  wpAny (model X.prog X.w) X.A (evalPairs (pairTrees keys values X.env pos)) (fun vs s'=>∃ps H',Inv X pins GK H' s'/\VV ps vs/\Q ps H') X.xe s
theorem CY {X:Cx}{pos:Pos}:Cn X pos [] [] []:=fun pins s GK H Q I h=>pairTrees_nil_walk ⟨[],H,I,.nil,h⟩
theorem AI {X:Cx}{pos:Pos}{k v:Expr}{ks:List (Option Expr)}{vs:List Expr}{tk tv:TE}{trs:List (TE×TE)}(hk:PE X k tk)(hv:PE X v tv)(hr:Cn X pos ks vs trs) :
  Cn X pos (some k::ks) (v::vs) ((tk,tv)::trs):=fun pins s GK H Q I h =>
 pairTrees_cons_walk (bg (hk pins s GK H _ I h) fun u s1 ⟨x,H1,I1,rx,q1⟩=>bg (hv pins s1 GK H1 _ I1 q1) fun w2 s2 ⟨y,H2,I2,ry,q2⟩ =>
  bg (hr pins s2 GK H2 _ I2 q2) fun ws s3 ⟨ps,H3,I3,rel,q3⟩=>⟨(x,y)::ps,H3,I3,.cons ⟨rx,ry⟩ rel,q3⟩)
structure M2 (X:Cx) (o:Expr) (m:Str) (apos:Pos) (e f:Expr) (cpos:Pos):Prop where
 base:attributeBase o m X.env (eval o X.env)=eval o X.env
 bB:((backTo cpos (starEach [e,f] X.env)).all (fun x=>!x.1)&&(backToKw cpos (keywordEach [] X.env)).all (fun x=>x.1.isSome)
  && decide (([e,f]:List Expr).length+([]:List Keyword).length+(if ([]:List Keyword).isEmpty then 0 else 1)<30))=true
 line:(apos.endLine == cpos.line)=true
 trees:backTo cpos (starEach [e,f] X.env)=[(false,eval e X.env),(false,eval f X.env)]
def En (H:Hp)(a:Addr):Prop:=(∃kvs,Rd H a (.dK kvs))\/∃kvs,Rd H a (.dT kvs)
theorem y9 {X:Cx}{pins:List (Addr×Obj)}{GK : St}{H:Hp}{s:Shared}{a:Addr}(I:Inv X pins GK H s)(d:En H a) :
  s.TypeIs (.ref a) "dict" /\ (∀b,Value.ref a=.ref b->∃ob,s.heap.get? b=some ob/\ob.dict=none)/\(a == sysModules)=false:=by
 rcases d with ⟨kvs,e⟩ | ⟨kvs,e⟩
 ·obtain⟨_,hd,vs,_,dd⟩:=ni I.aW e
  refine⟨dd.typeIs,fun b q=>?_,hd⟩
  cases q
  obtain⟨ob,_,_,h1,h2,_⟩:=dd
  exact⟨ob,h1,h2.2.1⟩
 ·obtain⟨_,hd,xs,_,dd⟩:=pI I.aW e
  refine⟨dd.typeIs,fun b q=>?_,hd⟩
  cases q
  obtain⟨ob,_,_,h1,h2,_⟩:=dd
  exact⟨ob,h1,h2.2.1⟩
section
variable {X:Cx}{pins:List (Addr×Obj)}{GK : St}{H:Hp}{s:Shared}{a:Addr}{y d:V}{u r:Value}{o:Option V}{A:Around}{E:Value->Shared->Prop}
theorem Eo {Q:Value->Shared->Prop}(hu:A.units+1<cLine)(I:Inv X pins GK H s)(g:dP H a y o)(ry:RelV y u)(rd:RelV d r)(h:∀w' s',Inv X pins GK H s'->RelV (o.getD d) w'->Q w' s') :
  wpAny (model X.prog X.w) A (call (.builtin "dict.get") [.ref a,u,r]) Q E s:=by
 rcases g with ⟨kvs,k,e,ey,l⟩ | ⟨kvs,k,b,e,ey,eb,l⟩
 ·subst ey
  obtain⟨z,hd,vs,rel,dd⟩:=ni I.aW e
  refine call_meetsIn PySem.F.slot_dict_get dd.typeIs PySem.F.entry_dict_get (PySem.F.args_dict_get_3 _ _ _) (meets_dict_get_default (aT X.prog X.w) a (kB ry) hd r) ⟨_,dd.mapOf,h _ _ (I.tok _) ?_⟩
  rw [l]
  exact (rel.val k).getD rd
 ·subst ey
  cases (show u=Value.ref b from ry)
  obtain⟨z,hd,xs,rel,dd⟩:=pI I.aW e
  refine call_meetsIn PySem.F.slot_dict_get dd.typeIs PySem.F.entry_dict_get (PySem.F.args_dict_get_3 _ _ _) (meetsH_dict_get_default (tupleKind (aT X.prog X.w)) a b hd r) ⟨tupleKind_room_in1 hu,k,xs,pH I.aW eb,dd,h _ _ (I.tok _) ?_⟩
  rw [l]
  exact (rel.val k).getD rd
end
def Ep (td ty tx:TE):TE:=fun GK H Q=>td GK H fun x H1=>∃a,x=.ref a/\En H1 a/\ty GK H1 fun y H2=>tx GK H2 fun z H3=>∃kvs k,H3 a=some (.dK kvs)/\y=kV k /\
 (∀v,cg kvs k=some v->Q v (upd H3 a (.dK (eW kvs k))))/\(cg kvs k=none->Q z H3)
section
variable {X:Cx}{o e f:Expr}{apos cpos:Pos}{td ty tx:TE}
theorem uC (ho:PE X o td) (he:PE X e ty) (hf:PE X f tx) (m:M2 X o "pop" apos e f cpos):PE X (.Call (.Attribute o "pop" apos) [e,f] [] cpos) (Ep td ty tx):=by
 intro pins s GK H Q I h
 refine wpAny_Call_method m.base m.bB m.line PySem.F.plainAttrs_dict PySem.F.slot_dict_pop PySem.F.type_dict_pop (bg (ho pins s GK H _ I h) fun u s1 ⟨x,H1,I1,rx,a,ex,d,q1⟩=>?_)
 subst ex
 obtain rfl:u=Value.ref a:=rx
 obtain⟨t1,t2,_⟩:=y9 I1 d
 refine⟨t1,t2,?_⟩
 rw [m.trees]
 refine Calls.callWith_builtin rfl (Calls.evalArgs_plain (Calls.spliced_cons (bg (he pins s1 GK H1 _ I1 q1) fun iv s2 ⟨y,H2,I2,ry,q2⟩ =>
  Calls.spliced_cons (bg (hf pins s2 GK H2 _ I2 q2) fun fv s3 ⟨z,H3,I3,rz,kvs,k,ea,ey,q3,q4⟩=>Calls.spliced_nil ?_))))
 subst ey
 cases l:cg kvs k with
 | some v=>exact Fb I3 ea ry l (.inr ⟨fv,rfl⟩) fun w' s4 I4 rw'=>⟨v,_,I4,rw',q3 v l⟩
 | none=>exact El I3 ea ry l fun s4 I4=>⟨z,H3,I4,rz,q4 l⟩
end
section
variable {X:Cx}{pins:List (Addr×Obj)}{GK : St}{H:Hp}{s:Shared}{a:Addr}{kvs:List (Key×V)}{A:Around}{E:Value->Shared->Prop}
end
section
variable {X:Cx}{pins:List (Addr×Obj)}{GK : St}{H:Hp}{s:Shared}{a:Addr}{y:V}{u:Value}{A:Around}{E:Value->Shared->Prop}
end
section
variable {X:Cx}
end
section
variable {κ : Type}[DecidableEq κ]
theorem CZ {kvs:List (κ×V)}{k:κ}{v:V}(h:cg kvs k=some v):k∈kvs.map (·.1):=by
 have q:(kvs.any fun kv=>decide (kv.1=k))=true:=by
  rw [hR,h]
  all_goals rfl
 obtain⟨p,hp,e⟩:=List.any_eq_true.mp q
 exact G4.mpr ⟨p,hp,of_decide_eq_true e⟩
theorem sx {p:κ×V}{r:List (κ×V)}{k:κ}(e:p.1=k):eW (p::r) k=eW r k:=by
 unfold eW
 rw [Jc,if_neg (by simp [e])]
theorem sy {p:κ×V}{r:List (κ×V)}{k:κ}(e:¬p.1=k):eW (p::r) k=p::eW r k:=by
 unfold eW
 rw [Jc,if_pos (by simp [e])]
end
theorem aY.bZ {H:Hp}{v:V}{ds:List PyData}(h:aY H v (.tuple ds)):∃p xs,v=.ref p/\H p=some (.tup xs)/\aX H xs ds:=by
 cases h with
 | tup e r=>exact⟨_,_,rfl,e,r⟩
theorem aY.int_inv {H:Hp}{v:V}{i:Int}(h:aY H v (.int i)):v=.int i:=by cases h;rfl
theorem aY.str_inv {H:Hp}{v:V}{x:Str}(h:aY H v (.str x)):v=.str x:=by cases h;rfl
theorem aX.cons_inv {H:Hp}{xs:List V}{d:PyData}{ds:List PyData}(h:aX H xs (d::ds)):∃x r,xs=x::r/\aY H x d/\aX H r ds:=by
 cases h with
 | cons a b=>exact⟨_,_,rfl,a,b⟩
theorem aX.nil_inv {H:Hp}{xs:List V}(h:aX H xs []):xs=[]:=by cases h;rfl
theorem aX.get {H:Hp}:∀{xs:List V} {ds:List PyData} {i:Nat} {d:PyData},aX H xs ds->ds[i]?=some d->∃x,xs[i]?=some x/\aY H x d
 | _,_,_,_,.nil,e=>by simp at e
 | _,_,0,_,.cons r _,e=>by
  simp at e
  subst e
  exact⟨_,rfl,r⟩
 | _,_,i+1,d,.cons _ t,e=>by
  obtain⟨x,h1,h2⟩:=aX.get (i:=i) (d:=d) t (by simpa using e)
  exact⟨x,by simpa using h1,h2⟩
def jx:cf->List V
 | .put x n=>[.str "put",.str x,.int n]
 | .copy x y=>[.str "copy",.str x,.str y]
 | .add x n=>[.str "add",.str x,.int n]
 | .read x=>[.str "read",.str x]
 | .tell x=>[.str "tell",.str x]
def cx:End->List V
 | .stop=>[.str "stop"]
 | .go p=>[.str "go",.int p]
 | .bu b x n p q=>[.str (wT b),.str x,.int n,.int p,.int q]
theorem qR {H:Hp}{v:V}{d:cf}(h:aY H v (bG d)):∃p,v=.ref p/\H p=some (.tup (jx d)):=by
  cases d <;> (
    obtain⟨p,xs,rfl,e,r⟩:=aY.bZ h
    obtain⟨x1,r1,rfl,h1,r⟩:=r.cons_inv
    obtain⟨x2,r2,rfl,h2,r⟩:=r.cons_inv
    first
      | (obtain⟨x3,r3,rfl,h3,r⟩:=r.cons_inv
         have z:=r.nil_inv
         subst z
         refine⟨p,rfl,?_⟩
         first
           | rw [e,h1.str_inv,h2.str_inv,h3.int_inv];rfl
           | rw [e,h1.str_inv,h2.str_inv,h3.str_inv];rfl)
      | (have z:=r.nil_inv
         subst z
         refine⟨p,rfl,?_⟩
         rw [e,h1.str_inv,h2.str_inv];rfl))
theorem Er {H:Hp}{v:V}{e:End}(h:aY H v (eD e)):∃p,v=.ref p/\H p=some (.tup (cx e)):=by
 cases e with
 | stop =>
  obtain⟨p,xs,rfl,e,r⟩:=aY.bZ h
  obtain⟨x1,r1,rfl,h1,r⟩:=r.cons_inv
  have z:=r.nil_inv
  subst z
  exact⟨p,rfl,by rw [e,h1.str_inv];rfl⟩
 | go q =>
  obtain⟨p,xs,rfl,e,r⟩:=aY.bZ h
  obtain⟨x1,r1,rfl,h1,r⟩:=r.cons_inv
  obtain⟨x2,r2,rfl,h2,r⟩:=r.cons_inv
  have z:=r.nil_inv
  subst z
  exact⟨p,rfl,by rw [e,h1.str_inv,h2.int_inv];rfl⟩
 | bu b x n q q' =>
  obtain⟨p,xs,rfl,e,r⟩:=aY.bZ h
  obtain⟨x1,r1,rfl,h1,r⟩:=r.cons_inv
  obtain⟨x2,r2,rfl,h2,r⟩:=r.cons_inv
  obtain⟨x3,r3,rfl,h3,r⟩:=r.cons_inv
  obtain⟨x4,r4,rfl,h4,r⟩:=r.cons_inv
  obtain⟨x5,r5,rfl,h5,r⟩:=r.cons_inv
  have z:=r.nil_inv
  subst z
  exact⟨p,rfl,by rw [e,h1.str_inv,h2.str_inv,h3.int_inv,h4.int_inv,h5.int_inv];rfl⟩
theorem fK {H:Hp}{v:V}{ps:List Piece}{i:Nat}{ds:List cf}{e:End}(h:aY H v (dM ps))(hi:ps[i]?=some (ds,e)) :
  ∃p xs pc da ea vs,v=.ref p/\H p=some (.tup xs)/\xs.length=ps.length/\xs[i]?=some (.ref pc)/\H pc=some (.tup [.ref da,.ref ea])/\H da=some (.tup vs)/\aX H vs (ds.map bG)/\H ea=some (.tup (cx e)):=by
 obtain⟨p,xs,rfl,e1,r⟩:=aY.bZ h
 have hl:=r.len
 obtain⟨x,hx,rx⟩:=r.get (i:=i) (d:=dY (ds,e)) (by rw [G8,hi];rfl)
 obtain⟨pc,ys,rfl,e2,r2⟩:=aY.bZ rx
 obtain⟨y1,t1,rfl,q1,r2⟩:=r2.cons_inv
 obtain⟨y2,t2,rfl,q2,r2⟩:=r2.cons_inv
 have z:=r2.nil_inv
 subst z
 obtain⟨da,vs,rfl,e3,r3⟩:=aY.bZ q1
 obtain⟨ea,rfl,e4⟩:=Er q2
 exact⟨p,xs,pc,da,ea,vs,rfl,e1,by rw [hl,GO],hx,e2,e3,r3,e4⟩
theorem eQ {n:Nat}(h:n<=1000000):n<sizeLine:=Iq h (by decide)
theorem bc {c:Bool}{A B:Prop}(hc:c=false)(h:B):if c=true then A else B:=by subst hc;exact bO h
theorem cu {c:Bool}{A B:Prop}(hc:c=true)(h:A):if c=true then A else B:=by subst hc;exact bL h
def C0 (td ty tx:TE):TE:=fun GK H Q=>td GK H fun x H1=>∃a,x=.ref a/\En H1 a/\ty GK H1 fun y H2=>tx GK H2 fun z H3=>∃o v,dP H3 a y o/\o.getD z=v/\Q v H3
theorem d8 {X:Cx} {o e f:Expr} {apos cpos:Pos} {td ty tx:TE} (hu:X.A.units+1<cLine) (ho:PE X o td) (he:PE X e ty) (hf:PE X f tx) (m:M2 X o "get" apos e f cpos):PE X (.Call (.Attribute o "get" apos) [e,f] [] cpos) (C0 td ty tx):=by
 intro pins s GK H Q I h
 refine wpAny_Call_method m.base m.bB m.line PySem.F.plainAttrs_dict PySem.F.slot_dict_get PySem.F.type_dict_get (bg (ho pins s GK H _ I h) fun u s1 ⟨x,H1,I1,rx,a,ex,d,q1⟩=>?_)
 subst ex
 obtain rfl:u=Value.ref a:=rx
 obtain⟨t1,t2,_⟩:=y9 I1 d
 refine⟨t1,t2,?_⟩
 rw [m.trees]
 refine Calls.callWith_builtin rfl (Calls.evalArgs_plain (Calls.spliced_cons (bg (he pins s1 GK H1 _ I1 q1) fun iv s2 ⟨y,H2,I2,ry,q2⟩ =>
  Calls.spliced_cons (bg (hf pins s2 GK H2 _ I2 q2) fun fv s3 ⟨z,H3,I3,rz,ov,v,g,ev,q3⟩=>Calls.spliced_nil ?_))))
 exact Eo hu I3 g ry rz fun w' s4 I4 rw'=>⟨v,H3,I4,by rw [<-ev];exact rw',q3⟩
structure RS where
 b5:Nat
 place:Nat
 w:Str->Int
 taken:Nat
 told:List Int
 word:Str
 bM:List Nat
def dD (w:Str->Int)(x:Str)(n:Int):Str->Int:=fun y=>if y=x then n else w y
def nq (nums:List Int)(S:RS):cf->RS
 | .put x n=>{ S with w:=dD S.w x n,place:=S.place+1 }
 | .copy x y=>{ S with w:=dD S.w x (S.w y),place:=S.place+1 }
 | .add x n=>{ S with w:=dD S.w x (S.w x+n),place:=S.place+1 }
 | .tell x=>{ S with told:=S.told++[S.w x],place:=S.place+1 }
 | .read x=>match nums[S.taken]? with
  | none=>{ S with word := "dry" }
  | some n=>{ S with w:=dD S.w x n,taken:=S.taken+1,place:=S.place+1 }
def fD (b:Bool)(u n:Int):Bool:=if b=true then decide (u<n) else decide (u=n)
def nu (S:RS):End->RS
 | .stop=>{ S with word := "stop" }
 | .go p=>{ S with b5:=p,place:=0,bM:=S.bM++[p] }
 | .bu b x n p q=>{ S with b5:=if fD b (S.w x) n=true then p else q,place:=0,bM:=S.bM++[if fD b (S.w x) n=true then p else q] }
def d6 (ps:List Piece)(nums:List Int)(S:RS):RS:=match ps[S.b5]? with
 | none=>S
 | some (ds,e)=>match ds[S.place]? with
  | some d=>nq nums S d
  | none=>nu S e
def DW (kvs:List (Key×V))(w:Str->Int):Prop:=∀x:Str,(cg kvs (Sum.inr x:Key)).getD (.int 0)=.int (w x)
theorem DW.put {kvs:List (Key×V)}{w:Str->Int}(h:DW kvs w)(x:Str)(n:Int):DW (putK kvs (Sum.inr x) (.int n)) (dD w x n):=fun y=>by
 rw [uz]
 unfold dD
 by_cases e:y=x
 ·subst e
  rw [if_pos rfl,if_pos rfl];rfl
 ·rw [if_neg (fun z=>e (Sum.inr.inj z)),if_neg e]
  exact h y
structure fc (H:Hp) (st d tl bl:Addr) (S:RS) (m:Nat):Prop where
 at_:H st=some (.tup [.int S.b5,.int S.place,.ref d,.int S.taken,.ref tl,.str S.word,.ref bl])
 dict:∃kvs,H d=some (.dK kvs)/\DW kvs S.w/\kvs.length<=m
 told:H tl=some (.lst (S.told.map V.int))
 bM:H bl=some (.lst (S.bM.map fun k=>V.int (k:Nat)))
 ne:tl≠bl
 bB:S.told.length<=m/\S.bM.length<=m+1
def eB (d tl bl:Addr)(H H':Hp):Prop:=∀c o,H c=some o->c≠d->c≠tl->c≠bl->H' c=some o
theorem eB.trans {d tl bl:Addr}{H H1 H2:Hp}(a:eB d tl bl H H1)(b:eB d tl bl H1 H2):eB d tl bl H H2:=fun c o h n1 n2 n3=>b c o (a c o h n1 n2 n3) n1 n2 n3
theorem eB.new {d tl bl p:Addr}{H:Hp}{o:HO}(hp:H p=none):eB d tl bl H (upd H p o):=fun c u h _ _ _=>by rw [au (aG h hp)];exact h
def cT (ps:List Piece):Prop:=∀p∈ps,match p.2 with
 | .stop=>True
 | .go q=>q<ps.length
 | .bu _ _ _ q r=>q<ps.length/\r<ps.length
theorem cJ.uD {xs:List Str}{m:Nat}{ps:List Piece}(h:cJ xs m ps):cT ps:=fun p hp=>by
 have:=h.ends p hp
 cases e:p.2 with
 | stop=>exact True.intro
 | go q=>rw [e] at this;exact this
 | bu b x n q r=>rw [e] at this;exact⟨this.2.2.1,this.2.2.2⟩
def za:Sp:=fun vs H Q _=>∃(pv:V) (st np d tl bl:Addr) (ps:List Piece) (nums:List Int) (S:RS) (m:Nat),vs=[pv,.ref st,.ref np]/\aY H pv (dM ps)/\cT ps/\H np=some (.tup (nums.map V.int))/\fc H st d tl bl S m /\
 S.b5<ps.length/\S.taken<=nums.length/\m<=10000/\∀st' H',fc H' st' d tl bl (d6 ps nums S) (m+1)->eB d tl bl H H'->Q (.ref st') H'
theorem AJ {ps:List Piece}{nums:List Int}{S:RS}(hp:cT ps)(h:S.b5<ps.length)(ht:S.taken<=nums.length):(d6 ps nums S).b5<ps.length/\(d6 ps nums S).taken<=nums.length:=by
 unfold d6
 have hx:ps[S.b5]?=some ps[S.b5]:=by simp [h]
 rw [hx]
 generalize hpc:ps[S.b5]=pc
 obtain⟨ds,e⟩:=pc
 have hm:(ds,e)∈ps:=by rw [<-hpc];exact HK h
 dsimp only
 cases hd:ds[S.place]? with
 | some dd =>
  cases dd with
  | read x =>
   dsimp only [nq]
   cases hn:nums[S.taken]? with
   | none=>exact⟨h,ht⟩
   | some n =>
    have:S.taken<nums.length:=(G7.mp hn).1
    exact⟨h,this⟩
  | _=>exact⟨h,ht⟩
 | none =>
  have hq:=hp (ds,e) hm
  cases e with
  | stop=>exact⟨h,ht⟩
  | go q=>exact⟨hq,ht⟩
  | bu b x n q r =>
   dsimp only [nu]
   refine⟨?_,ht⟩
   split
   ·exact hq.1
   ·exact hq.2
theorem fc.nV {H1:Hp}{st' d tl bl:Addr}{S':RS}{m:Nat}{kvs:List (Key×V)}(h1:H1 d=some (.dK kvs))(dw:DW kvs S'.w)(hk:kvs.length<=m)(t1:H1 tl=some (.lst (S'.told.map V.int)))
  (b1:H1 bl=some (.lst (S'.bM.map fun k=>V.int (k:Nat)))) (ne:tl≠bl) (bB:S'.told.length<=m/\S'.bM.length<=m+1) (hn:H1 st' = none) {xs:List V}
  (ex:xs=[.int S'.b5,.int S'.place,.ref d,.int S'.taken,.ref tl,.str S'.word,.ref bl]):fc (upd H1 st' (.tup xs)) st' d tl bl S' m:=by
 subst ex
 exact⟨af,⟨kvs,by rw [au (aG h1 hn)];exact h1,dw,hk⟩,by rw [au (aG t1 hn)];exact t1,by rw [au (aG b1 hn)];exact b1,ne,bB⟩
theorem eB.tU {d tl bl:Addr}{H:Hp}{o:HO}:eB d tl bl H (upd H d o):=fun c u h n _ _=>by rw [au n];exact h
theorem eB.Fe {d tl bl:Addr}{H:Hp}{o:HO}:eB d tl bl H (upd H tl o):=fun c u h _ n _=>by rw [au n];exact h
theorem eB.Co {d tl bl:Addr}{H:Hp}{o:HO}:eB d tl bl H (upd H bl o):=fun c u h _ _ n=>by rw [au n];exact h
theorem jy {ps:List Piece}{nums:List Int}{S:RS}{ds:List cf}{e:End}{dd:cf}(h1:ps[S.b5]?=some (ds,e))(h2:ds[S.place]?=some dd):d6 ps nums S=nq nums S dd:=by
 unfold d6
 rw [h1]
 dsimp only
 rw [h2]
theorem kF {ps:List Piece}{nums:List Int}{S:RS}{ds:List cf}{e:End}(h1:ps[S.b5]?=some (ds,e))(h2:ds[S.place]?=none):d6 ps nums S=nu S e:=by
 unfold d6
 rw [h1]
 dsimp only
 rw [h2]
def vO:Option Int->V
 | none=>.bC
 | some i=>.int i
def jA:Option Int->Option Int->Prop
 | some a,some b=>a<=b
 | _,_=>True
def cK (n:Int)(lo hi:Option Int):Bool:=(match lo with | none=>true | some a=>decide (a<=n))&&(match hi with | none=>true | some a=>decide (n<=a))
abbrev Rs:=Option (Option Int×Option Int)
def jH (hi:Option Int)(n:Int):Int:=match hi with | none=>n-1 | some h=>if n-1<h then n-1 else h
def jI (lo:Option Int)(n:Int):Int:=match lo with | none=>n | some l=>if n > l then n else l
def gd (lo hi:Option Int)(n:Int):Rs :=
 match lo with | none=>some (none,some (jH hi n)) | some l=>if jH hi n<l then none else some (some l,some (jH hi n))
def ip (lo hi:Option Int)(n:Int):Rs :=
 match hi with | none=>some (some (jI lo n),none) | some h=>if h<jI lo n then none else some (some (jI lo n),some h)
def sA (lo hi:Option Int)(n:Int):Rs:=if cK n lo hi=true then some (some n,some n) else none
def jJ (lo hi:Option Int)(n:Int):Rs:=if lo=some n then (if hi=some n then none else some (some (n+1),hi)) else if hi=some n then some (lo,some (n-1)) else some (lo,hi)
def nv (lo hi:Option Int)(n:Int)(side:Bool):Rs:=if side=true then gd lo hi n else ip lo hi n
def wK (lo hi:Option Int)(n:Int)(side:Bool):Rs:=if side=true then sA lo hi n else jJ lo hi n
def fE (w:Str)(lo hi:Option Int)(n:Int)(side:Bool):Rs:=if w = "less" then nv lo hi n side else wK lo hi n side
theorem AK {w:Str}{lo hi:Option Int}{n:Int}(le:jA lo hi)(h1:fE w lo hi n true=none)(h2:fE w lo hi n false=none):False:=by
 unfold fE at h1 h2
 by_cases hw:w = "less"
 ·rw [if_pos hw] at h1 h2
  simp only [nv,if_true,Ie,if_false] at h1 h2
  unfold gd jH at h1
  unfold ip jI at h2
  cases lo <;> cases hi <;> simp only [reduceCtorEq] at h1 h2
  rename_i l h
  simp only [jA] at le
  by_cases c1:n-1<h
  ·simp only [c1,if_true] at h1
   by_cases c2:n-1<l
   ·by_cases c3:n > l
    ·simp only [c3,if_true] at h2
     split at h2
     ·omega
     ·cases h2
    ·simp only [c3,if_false] at h2
     split at h2
     ·omega
     ·cases h2
   ·rw [if_neg c2] at h1;cases h1
  ·simp only [c1,if_false] at h1
   split at h1
   ·omega
   ·cases h1
 ·rw [if_neg hw] at h1 h2
  simp only [wK,if_true,Ie,if_false] at h1 h2
  unfold jJ at h2
  by_cases c1:lo=some n
  ·rw [if_pos c1] at h2
   by_cases c2:hi=some n
   ·subst c1;subst c2
    simp [sA,cK] at h1
   ·rw [if_neg c2] at h2;cases h2
  ·rw [if_neg c1] at h2
   split at h2 <;> cases h2
def RV (H:Hp)(v:V)(r:Rs):Prop:=match r with
 | none=>v=.bC
 | some (a,b)=>∃p,v=.ref p/\H p=some (.tup [vO a,vO b])
theorem RV.same {H H':Hp}{v:V}{r:Rs}(h:RV H v r)(s:ao H H'):RV H' v r:=by
 cases r with
 | none=>exact h
 | some ab =>
  obtain⟨p,e,h⟩:=h
  exact⟨p,e,s _ _ h⟩
theorem RV.put {H:Hp}{v:V}{r:Rs}{l:Addr}{xs:List V}{o:HO}(h:RV H v r)(hl:H l=some (.lst xs)):RV (upd H l o) v r:=by
 cases r with
 | none=>exact h
 | some ab =>
  obtain⟨p,e,h⟩:=h
  exact⟨p,e,by rw [au (bN h hl (by intro z;cases z))];exact h⟩
def dO:Option Int->PyData
 | none=>.none
 | some i=>.int i
theorem Es {H:Hp}(o:Option Int):aY H (vO o) (dO o):=by
 cases o with
 | none=>exact .bC
 | some i=>exact .int i
theorem ao.put {H H':Hp}{l:Addr}{o:HO}(s:ao H H')(n:H l=none):ao H (upd H' l o):=fun c u e=>by rw [au (aG e n)];exact s c u e
theorem zb:decide (V.str "less" = V.str "less")=true:=by decide +kernel
theorem pJ {lo:Option Int}{n:Int}:decide (vO lo=V.int n)=decide (lo=some n):=by
 cases lo with
 | none=>rfl
 | some i =>
  by_cases h:i=n
  ·subst h;simp [vO]
  ·have h1:¬(V.int i=V.int n):=fun z=>h (V.int.inj z)
   have h2:¬((some i:Option Int)=some n):=fun z=>h (G5.inj z)
   rw [show vO (some i)=V.int i from rfl,decide_eq_false h1,decide_eq_false h2]
theorem mq {lo:Option Int}{n:Int}:An (vO lo) (V.int n)=true:=by cases lo <;> rfl
structure AL (P:Program) (w:World) (K:GP) (mg:Str->Option Value) (base:Heap) (C:Addr) (m:Str) (k:Nat) (ps:List Str) (sp:Sp):Prop where
 cl:lY K C
 ex:∃f fd,bp P w K mg base bT k f fd ps sp/\Meth K C m f/\Binds K fd ps []
structure AM (P:Program) (w:World) (K:GP) (mg:Str->Option Value) (base:Heap) (C:Addr) (x:Str) (k:Nat) (ps:List Str) (sp:Sp):Prop where
 ex:∃f fd,bp P w K mg base bT k f fd ps sp/\Mk K C f/\mg x=some (.ref C)/\Binds K fd ps []
section
variable {X:Cx}{C:Addr}{m x:Str}{k:Nat}{ps:List Str}{sp:Sp}{oe e:Expr}{es:List Expr}{ta:TE}{t:TA}{p pos apos:Pos}
theorem C1 {pl:Sem Bool}(o:AL X.prog X.w X.K X.mg X.base C m k ps sp)(he:PE X oe ta)(hr:dq k X.A)(ha:PA X (e::es) t)
  (hst:starEach (e::es) X.env=(false,eval e X.env)::starEach es X.env:=by rfl) (hpl:(backTo pos (starEach es X.env)).any (·.1)=false:=by rfl)
  (ht:eval (.Call (.Attribute oe m apos) (e::es) [] pos) X.env=(do
   let ov <-eval oe X.env
   standAt apos.atName
   let (f,first) <-holding [ov] (getMethod ov m pl)
   callWith pos f first (backTo pos (starEach (e::es) X.env)) (backToKw pos (keywordEach [] X.env))):=by rfl) :
  PE X (.Call (.Attribute oe m apos) (e::es) [] pos) (BZ C m sp [] E0 ta t):=by
 obtain⟨f,fd,F,hm,hb⟩:=o.ex
 exact CG he o.cl hm F hr hb .nil xK ha hst hpl ht
theorem C2 (o:AM X.prog X.w X.K X.mg X.base C x k ps sp)(hr:dq (k+1) X.A)(hg:Gl X x)(ha:PA X (e::es) t)
  (hdb:(x == ("__debug__" : Str))=false:=by decide) (he:starEach (e::es) X.env=(false,eval e X.env)::starEach es X.env:=by rfl)
  (hpl:(backTo pos (starEach es X.env)).any (·.1)=false:=by rfl):PE X (.Call (.Name x p) (e::es) [] pos) (B0 C sp [] E0 t):=by
 obtain⟨f,fd,F,M,hm,hb⟩:=o.ex
 exact CH M F hr hg hm hb .nil xK ha hdb he hpl
end
theorem ny:bootBuiltins "dict" = some (.type "dict"):=by decide +kernel
theorem Et {k:Str}{v:V}{l:List (Str×V)}:((k,v)::l).lookup k=some v:=by simp [HA]
theorem AN {k k':Str}{v:V}{l:List (Str×V)}{o:Option V}(h:¬k=k')(e:l.lookup k=o):((k',v)::l).lookup k=o:=by
 rw [HU,beq_false_of_ne h];exact e
theorem Gg {k k':Str}{v u:V}{l l':List (Str×V)}(h:¬k' = k)(e:eC k v l=l'):eC k v ((k',u)::l)=(k',u)::l':=by simp only [eC,if_neg h,e]
theorem Eu {k:Str}{v:V}:eC k v []=[(k,v)]:=rfl
def Gx (a0 a1 a2 a3 a4 a5 a6 a7:V):List (Str×V):=[("pieces",a0),("passed",a1),("place",a2),("worths",a3),("numbers",a4),("taken",a5),("spoken",a6),("over",a7)]
section
variable {a0 a1 a2 a3 a4 a5 a6 a7 z:V}
end
structure dG (C:Addr) (H:Hp) (p pl d nl sl:Addr) (plv:V) (nums:List Int) (S:RS) (m:Nat):Prop where
 ob:∃dx,H p=some (.ins C dx (Gx plv (.ref pl) (.int S.place) (.ref d) (.ref nl) (.int S.taken) (.ref sl) (.bl (decide (S.word = "stop")))))
 Gy:H pl=some (.lst (S.bM.map fun k=>V.int (k:Nat)))
 last:∃xs,S.bM=xs++[S.b5]
 dict:∃kvs,H d=some (.dK kvs)/\DW kvs S.w/\kvs.length<=m
 nums:H nl=some (.lst (nums.map V.int))
 Gz:H sl=some (.lst (S.told.map V.int))
 ne:pl≠nl/\pl≠sl/\nl≠sl
 bB:S.told.length<=m/\S.bM.length<=m+1
section
variable {C:Addr}{H H':Hp}{p pl d nl sl:Addr}{plv:V}{nums:List Int}{S:RS}{m:Nat}
end
def j6 (ps:List Piece)(nums:List Int)(S:RS):RS:=if S.word = "on" then d6 ps nums S else S
def b8 (ps:List Piece)(nums:List Int):Nat->RS->RS
 | 0,S=>S
 | n+1,S=>j6 ps nums (b8 ps nums n S)
theorem wL {ps:List Piece} {nums:List Int} {n:Nat} {S:RS} (h:(b8 ps nums n S).word = "on"):b8 ps nums (n+1) S=d6 ps nums (b8 ps nums n S):=by
 show j6 ps nums _=_
 unfold j6
 rw [if_pos h]
theorem oF {ps:List Piece} {nums:List Int} {n:Nat} {S:RS} (h:¬(b8 ps nums n S).word = "on"):∀k,b8 ps nums (n+k) S=b8 ps nums n S
 | 0=>rfl
 | k+1=>by
  show j6 ps nums (b8 ps nums (n+k) S)=_
  rw [oF h k]
  unfold j6
  rw [if_neg h]
theorem qS {ps:List Piece}{nums:List Int}{S:RS}(hp:cT ps)(h:S.b5<ps.length)(ht:S.taken<=nums.length):∀n,(b8 ps nums n S).b5<ps.length/\(b8 ps nums n S).taken<=nums.length
 | 0=>⟨h,ht⟩
 | n+1=>by
  have ih:=qS hp h ht n
  show (j6 ps nums (b8 ps nums n S)).b5<_/\(j6 ps nums (b8 ps nums n S)).taken<=_
  unfold j6
  split
  ·exact AJ hp ih.1 ih.2
  ·exact ih
def cU (pc:Nat)(w:Str->Int):RS:=⟨pc,0,w,0,[], "on",[pc]⟩
theorem qT {H:Hp}:∀ns:List Int,aX H (ns.map V.int) (ns.map PyData.int)
 | []=>.nil
 | n::ns=>.cons (.int n) (qT ns)
end L2
namespace HT
open PySem PyProof.Rows PySem.Spec
section
variable {prog:Program}{w:World}{A:Around}{E:Value->Shared->Prop}{s:Shared}
theorem nI {t sl:Addr}{items:Array Value}{vl vu:Value}{lo hi:Option Int}{Q:Value->Shared->Prop}(ht:IsTup s.heap t items)(hs:s.heap.IsSliceOf sl vl vu .none)(pl:IsPart vl lo)(pu:IsPart vu hi)
  (hw:bP items.size 0 lo=0/\bP items.size items.size hi=items.size) (h:Q (.ref t) s):wpAny (model prog w) A (getItem (.ref t) (.ref sl)) Q E s:=by
 obtain⟨os,hos,hcs,hds⟩:=id hs
 have hTs:s.TypeIs (.ref sl) "slice" := ⟨os,hos,hcs⟩
 unfold getItem
 try with_reducible refine JB ?_
 first | refine Jx (Jy ?_) | skip
 refine Jx (J4 ht.typeIs (by decide) ?_)
 refine Jx (wpAny_callSpecial?_slot (name:=Str.ofString "__getitem__") ht.typeIs PyProof.Rows.slot_tuple_getitem
  (JC PyProof.Rows.slot_tuple_getitem ht.typeIs entry_tuple_getitem ?_ (args_tuple_getitem _ _)))
 show wpAny _ _ (Builtin.Tuple.tupleItemsOf (.ref t) >>= _) _ _ s
 refine Jx (tupleItemsOf_ ht ?_)
 refine Jx (JP hTs ?_)
 rw [if_pos (by decide)]
 refine Jx (i8 hs pl pu ?_)
 have hno:((((bP items.size 0 lo:Nat):Int) == 0&&(1:Int) == 1&&(bP items.size items.size hi-bP items.size 0 lo) == items.size)=true):=by
  rw [hw.1,hw.2]
  simp
 show wpAny _ _ (if (((bP items.size 0 lo:Nat):Int) == 0&&(1:Int) == 1&&(bP items.size items.size hi-bP items.size 0 lo) == items.size)=true then _ else _) _ _ s
 rw [if_pos hno]
 refine Jx ?_
 unfold Builtin.Tuple.tupleIsExact
 refine Jx (JP ht.typeIs (Jy ?_))
 rw [if_pos (by decide)]
 refine Jx (JF ?_)
 first
  | exact Jy ⟨_,rfl,Jy h⟩
  | exact Jx (Jy (Jy ⟨_,rfl,Jy h⟩))
  | exact Jy (Jy ⟨_,rfl,Jy h⟩)
end
end HT
namespace L2
open PySem PySem.Spec PyProof.Rows
section
variable {X:Cx}
def Ff (K:GP):V->Option Int->Option Int->Hp->VK->Prop:=fun x lo hi H Q=>∃a xs,x=.ref a/\av K H a xs /\
 ((HT.bP xs.length 0 lo=0/\HT.bP xs.length xs.length hi=xs.length)->Q (.ref a) H)/\(¬(HT.bP xs.length 0 lo=0/\HT.bP xs.length xs.length hi=xs.length)->∀p,H p=none->Q (.ref p) (upd H p (.tup (cP xs lo hi))))
theorem iU:DQ X (Ff X.K):=by
 intro pins s GK H x v vl vu lo hi sl Q I rx hs pl pu h
 obtain⟨a,xs,rfl,hx,q1,q2⟩:=h
 by_cases hw:HT.bP xs.length 0 lo=0/\HT.bP xs.length xs.length hi=xs.length
 ·cases rx
  obtain⟨its,r,ht,hz⟩:=I.tuple hx
  have hlen:its.toArray.size=xs.length:=by rw [Ha];exact r.length.symm
  refine⟨"tuple",_,PyProof.Rows.slot_tuple_getitem.lookup,ht.typeIs,?_⟩
  exact HT.nI ht hs pl pu (by rw [hlen];exact hw) ⟨.ref a,H,I,rfl,q1 hw⟩
 ·exact DR pins s GK H (.ref a) v vl vu lo hi sl Q I rx hs pl pu ⟨a,xs,rfl,hx,hw,q2 hw⟩
end
theorem GB {α : Type}{x y z u v:α}{xs:List α}:eV (x::y::z::u::v::xs) 4=some v:=bA (j:=4) rfl
theorem GC {α : Type}{x y z u v w:α}{xs:List α}:eV (x::y::z::u::v::w::xs) 5=some w:=bA (j:=5) rfl
theorem Ew {x y z r:Int}(h0:0<=r)(h1:r<3):∃g:Int,eV [V.int x,V.int y,V.int z] r=some (V.int g)/\(g=x\/g=y\/g=z):=by
 obtain rfl | rfl | rfl:r=0\/r=1\/r=2:=by omega
 ·exact⟨x,bW,.inl rfl⟩
 ·exact⟨y,cR,.inr (.inl rfl)⟩
 ·exact⟨z,at2,.inr (.inr rfl)⟩
theorem fc.mono {H:Hp}{st d tl bl:Addr}{S:RS}{m m':Nat}(h:fc H st d tl bl S m)(le:m<=m'):fc H st d tl bl S m':=by
 obtain⟨h1,⟨kvs,h2,h3,h4⟩,h5,h6,h7,h8⟩:=h
 exact⟨h1,⟨kvs,h2,h3,GY h4 le⟩,h5,h6,h7,GY h8.1 le,GY h8.2 (Ip le)⟩
theorem xQ (ps:List Piece) (nums:List Int) (S:RS):(d6 ps nums S).word=S.word\/(d6 ps nums S).word = "stop" \/ (d6 ps nums S).word = "dry" := by
 unfold d6
 cases hx:ps[S.b5]? with
 | none=>exact .inl rfl
 | some pc =>
  obtain⟨ds,e⟩:=pc
  dsimp only
  cases hd:ds[S.place]? with
  | none =>
   dsimp only
   cases e with
   | stop=>exact .inr (.inl rfl)
   | go q=>exact .inl rfl
   | bu b x n q r=>exact .inl rfl
  | some dd =>
   dsimp only
   cases dd with
   | read x =>
    unfold nq
    cases hn:nums[S.taken]? with
    | none=>exact .inr (.inr rfl)
    | some n=>exact .inl rfl
   | put x n=>exact .inl rfl
   | copy x y=>exact .inl rfl
   | add x n=>exact .inl rfl
   | tell x=>exact .inl rfl
theorem sC {ps:List Piece} {nums:List Int} {S:RS} (h:S.word = "on"):∀n,(b8 ps nums n S).word = "on" \/ (b8 ps nums n S).word = "stop" \/ (b8 ps nums n S).word = "dry"
 | 0=>.inl h
 | n+1=>by
  by_cases hw:(b8 ps nums n S).word = "on"
  ·rw [wL hw]
   rcases xQ ps nums (b8 ps nums n S) with z | z
   ·exact .inl (z.trans hw)
   ·exact .inr z
  ·rw [oF hw 1]
   exact sC h n
theorem AO {ps:List Piece} {nums:List Int} {S:RS} (h:S.word = "on") (n:Nat):PySem.PyData.canLay0 (.str (b8 ps nums n S).word)=true:=by
 rcases sC (ps:=ps) (nums:=nums) h n with z | z | z <;> (rw [z];decide +kernel)
def wM:Sp:=fun vs H Q _=>∃(np:Addr) (plv:V) (n:Nat) (nums:List Int) (ps:List Piece),vs=[plv,.ref np,.int n]/\aY H plv (dM ps)/\cT ps/\0<ps.length/\H np=some (.tup (nums.map V.int))/\n<=2000 /\
 ∀st d tl bl H',fc H' st d tl bl (b8 ps nums n (cU 0 fun _=>0)) n->ao H H'->Q (.ref st) H'
def uE:Sp:=fun vs H Q _=>∃(b:Addr),vs=[.ref b]/\bU H b/\∀(t:Addr) (nums:List Int) (H':Hp),H' t=some (.tup (nums.map V.int))->bU H' b->Fix b H H'->Q (.ref t) H'
theorem jK {P:Program}{w:World}{x:Str}{v:Value}(h:(aT P w).is (Sum.inr x) v=true):∃t,v=.str x t:=by
 cases v with
 | str y t =>
  have:y=x:=by simpa [aT,ik,Value.isStrOf] using h
  exact⟨t,by rw [this]⟩
 | _=>simp [aT,ik,Value.isStrOf] at h
theorem pK:∀{vs:List Value} {ks:List Str},vs.length=ks.length->(∀(j:Nat) (v:Value) (x:Str),vs[j]?=some v->ks[j]?=some x->∃t,v=.str x t)->StrsAre vs ks
 | [],[],_,_=>.nil
 | v::vs,x::ks,hl,h=>by
  obtain⟨t,rfl⟩:=h 0 v x rfl rfl
  exact .cons x t (pK (by simpa using hl) fun j v' x' h1 h2=>h (j+1) v' x' (by simpa using h1) (by simpa using h2))
 | [],_::_,hl,_=>by simp at hl
 | _::_,[],hl,_=>by simp at hl
section
variable {prog:Program}{w:World}{A:Around}{E:Value->Shared->Prop}{s:Shared}
open PySem.Calls PySem.W in
theorem gather {T:String}{r d:Addr}{n:Nat}{P:Nat->Value->Prop}{OK:Heap->Prop}{G:List Value->Shared->Prop}(src:KdlSrc prog w T r d n P OK)(calm:A.handled=none)(ok:OK s.heap)(bB:n<=sizeLine)
  (fin:∀(g:Heap) (tk:Nat) (got:Array Value),(∀b o,s.heap.get? b=some o->g.get? b=some o)->ItemsOf P got n->s.heap.objs.size<=g.objs.size->G got.toList { s with heap:=g,toks:=tk }) :
  wpAny (model prog w) A (collect (.ref r)) G E s:=by
 obtain⟨lt1,lt2⟩:=src.there _ ok
 unfold collect
 refine Jx (wpAny_runValue (JH entry_proto_collect' ?_))
 rw [HW PySem.F.plain_proto_collect _]
 show wpAny _ A.in1 (newList [] >>= fun z=>again (.builtin "list.__iadd__" ⟨[z,.ref r],[]⟩)) _ _ s
 refine Jx (JE (Jy ⟨plainId_quiet PySem.F.plain_list_iadd _,JH entry_list_iadd' ?_⟩))
 rw [HW PySem.F.plain_list_iadd _]
 show wpAny _ A.in1 (Builtin.List.listExtendWith (.ref s.heap.objs.size) (.ref r) (.ref s.heap.objs.size)) _ _ _
 have made:(s.heap.push { cls:=.type "list",data:=.seq ([]:List Value).toArray }).get? s.heap.objs.size=some { cls:=.type "list",data:=.seq #[] }:=GX _ rfl
 have run:=kdl_extend (A:=A) (s:={ s with heap:=s.heap.push { cls:=.type "list",data:=.seq ([]:List Value).toArray } })
  (R:=fun (z:Result) (t:Shared)=>∃(g:Heap) (tk:Nat) (got:Array Value) (c:Nat),z=.ok (.ret (.ref s.heap.objs.size))/\t={ s with heap:=g,toks:=tk } /\
   (∀b o,s.heap.get? b=some o->g.get? b=some o)/\g.get? s.heap.objs.size=some { cls:=.type "list",dict:=none,data:=.seq got c,slots:=#[] }/\ItemsOf P got n)
  src calm (src.keep _ _ ok fun b _ o e=>GV _ e) s.heap.objs.size (HE lt1) (HE lt2) (.ref s.heap.objs.size) 0 made
  (fun g tk got c kept at_ its=>⟨g,tk,got,c,rfl,rfl,fun b o e=>kept b o (G0 (GU e)) (GV _ e),at_,its⟩) bB
 refine Jz run (fun z t x=>?_) fun z t ⟨_,_,_,_,bad,_⟩=>by cases bad
 cases z with
 | done f =>
  obtain⟨g,tk,got,c,e,rfl,kept,at_,its⟩:=x
  cases e
  show wpAny _ A (load s.heap.objs.size >>= _) _ _ _
  exact Jx (wpAny_load at_ (Jy (fin g tk got kept its (Ht (GU at_)))))
 | again more =>
  refine⟨x.1,JK x.2 fun z' t' ⟨g,tk,got,c,e1,e2,kept,at_,its⟩=>?_⟩
  subst e1 e2
  show wpAny _ A (load s.heap.objs.size >>= _) _ _ _
  exact Jx (wpAny_load at_ (Jy (fin g tk got kept its (Ht (GU at_)))))
theorem uF {a:Addr}{kvs:List (Key×Value)}{ks:List Str}{Q:Value->Shared->Prop}(hh:A.handled=none)(lo:(a == sysModules)=false)(dd:s.heap.DictOf (aT prog w) a kvs)
  (hk:kvs.map (·.1)=ks.map Sum.inr) (h64:ks.length<64)
  (h:∀(h':Heap) (tk:Nat) (D:Addr) (out:Array Value) (ss':List Str) (e:Nat),(∀b o,s.heap.get? b=some o->h'.get? b=some o)->s.heap.objs.size<=D->h'.get? D=some { cls:=.type "list",data:=.seq out e } ->
   StrsAre out.toList ss'->ss'.Perm ks->sortedS ss' = true->Q (.ref D) { s with heap:=h',toks:=tk }) :
  wpAny (model prog w) A (call (.builtin "sorted") [.ref a]) Q E s:=by
 refine Calls.call_function_entry kind_sorted plain_sorted entry_sorted (args_sorted1 _) ?_
 unfold Builtin.«sorted»
 refine Jx (m:=checkCount "sorted" 1 1 _) (Jy ?_)
 obtain⟨ep,hat⟩:=dd.dictAt
 have hlk:kvs.length=ks.length:=by have:=congrArg HI hk;simpa using this
 have hs:sizeLine=16777216\/64<=sizeLine:=.inr (by decide)
 have hz:kvs.length<=sizeLine:=by rw [hlk];exact GY (Ht h64) (by decide)
 refine Jx (gather (A:=A.in1) (PySem.W.kdl_dict (knd:=aT prog w) (kvs:=kvs) (ep:=ep) lo) hh hat hz fun h' tk acc hkeep hacc hsz=>?_)
 have hl:acc.toList.length=ks.length:=by rw [Hw,hacc.1,hlk]
 have hS:StrsAre acc.toList ks:=pK hl fun j v x h1 h2=>by
  obtain⟨k,y,e1,e2⟩:=hacc.2 j v (by rw [<-IH];exact h1)
  have e3:(kvs.map (·.1))[j]?=some k:=by rw [G8,e1];rfl
  rw [hk,G8,h2] at e3
  cases (G5.inj e3)
  exact jK e2
 refine Jx (wpAny_newList ?_ (by rw [hl];exact GY (Ht h64) (by decide)))
 have hoL:(h'.push (seqObj "list" acc.toList.toArray 0)).get? h'.objs.size=some (seqObj "list" acc.toList.toArray 0):=GX _ rfl
 refine Jx (JB (JC slot_list_sort ⟨_,hoL,rfl⟩ entry_list_sort (list_sort_treeK strKind_oneLt hoL hS.keysOf (fun v₁ v₂ rest e=>keyKind_strs (by rw [<-e];exact hS)) (by rw [hl];exact h64) fun st' a1 a2=>⟨_,rfl,?_⟩) (args_list_sort _)))
 obtain⟨ss',b1,b2,b3⟩:=sorted_out_str hS a1 a2
 obtain⟨e,he⟩:=sortedHeap_at (out:=(arrOf st').map (·.2)) hoL
 refine Jy ⟨_,rfl,h _ tk _ _ ss' e (fun b o ho=>?_) hsz he b1 b2 b3⟩
 have h1:=hkeep b o ho
 have hlt:=GU h1
 rw [sortedHeap_old (G0 hlt) (by rw [size_push'];exact Hy hlt)]
 exact GV _ h1
end
theorem qU:∀{us:List Value} {ys:List Str},StrsAre us ys->Vals (ys.map V.str) us
 | _,_,.nil=>.nil
 | _,_,.cons x t r=>.cons ⟨t,rfl⟩ (qU r)
section
variable {X:Cx}
theorem jf (hc:X.calm=true):er X (.builtin "sorted") (fun vs H Q=>∃(a:Addr) (kvs:List (Key×V)) (ks:List Str),vs=[.ref a]/\H a=some (.dK kvs)/\kvs.map (·.1)=ks.map Sum.inr/\ks.length<64 /\
  ∀(l:Addr) (ss:List Str),ss.Perm ks->sortedS ss=true->H l=none->Q (.ref l) (upd H l (.lst (ss.map V.str)))):=by
 intro pins s GK H xs us Q I r h
 obtain⟨a,kvs,ks,rfl,ha,hk,h64,q⟩:=h
 obtain⟨u,rfl,ru⟩:=vals1 r
 cases (show u=Value.ref a from ru)
 obtain⟨z,hd,vs,rel,dd⟩:=pG I.aW ha
 refine uF (I.ok.hd hc) hd dd (by rw [<-rel.keys];exact hk) h64 fun h' tk D out ss' e hkeep hD he hS hp hs=>?_
 have hv:Vals (ss'.map V.str) out.toList:=qU hS
 refine⟨.ref D,_,I.laid (t':=tk) (o:=.lst (ss'.map V.str)) hkeep hD (show cy X.prog X.w _ h' _ (.lst (ss'.map V.str)) from ⟨?_,out.toList,e,hv,by simpa using he⟩),rfl,q D ss' hp hs (I.aW.fresh hD)⟩
 rw [GO,hp.length_eq]
 exact GY (Ht h64) (by decide)
end
theorem AQ {kvs:List (Key×V)}{k:Key}{v:V}(nd:(kvs.map (·.1)).Nodup)(h:(k,v)∈kvs):cg kvs k=some v:=by
 induction kvs with
 | nil=>cases h
 | cons p r ih =>
  obtain⟨k',v'⟩:=p
  rw [Hh,HQ] at nd
  rcases GS.mp h with e | h
  ·cases e
   simp [cg]
  ·have hne:¬k' = k:=fun z=>nd.1 (by rw [z];exact G4.mpr ⟨(k,v),h,rfl⟩)
   have:=ih nd.2 h
   simp [cg,hne] at this ⊢
   exact this
section
variable {X:Cx}
end
theorem sub_len {α : Type}[DecidableEq α]:∀{l m:List α},l.Nodup->(∀x∈l,x∈m)->l.length<=m.length
 | [],_,_,_=>Hg _
 | x::l,m,nd,h=>by
  rw [HQ] at nd
  have hx:=h x (GZ ..)
  have h1:=sub_len (l:=l) (m:=m.erase x) nd.2 fun y hy=>(List.mem_erase_of_ne (fun z=>nd.1 (by rw [<-z];exact hy))).mpr (h y (G1 _ hy))
  rw [List.length_erase_of_mem hx] at h1
  have h2:0<m.length:=List.length_pos_of_mem hx
  show l.length+1<=m.length
  omega
theorem gy:bootBuiltins "sorted" = some (.builtin "sorted"):=PyProof.Rows.boot_sorted
theorem zc {kvs:List (Key×V)}{k:Key}{v:V}:(putK kvs k v).map (·.1)=kvs.map (·.1)/\k∈kvs.map (·.1)\/(putK kvs k v).map (·.1)=kvs.map (·.1)++[k]/\¬k∈kvs.map (·.1):=by
 unfold putK
 by_cases h:(kvs.any fun kv=>decide (kv.1=k))=true
 ·rw [if_pos h]
  refine .inl ⟨?_,?_⟩
  ·rw [Ii]
   refine Je fun p _=>?_
   show (if p.1=k then (p.1,v) else p).1=p.1
   split <;> rfl
  ·obtain⟨p,hp,he⟩:=List.any_eq_true.mp h
   exact G4.mpr ⟨p,hp,of_decide_eq_true he⟩
 ·rw [if_neg h]
  refine .inr ⟨by rw [G3];rfl,fun hm=>h ?_⟩
  obtain⟨p,hp,he⟩:=G4.mp hm
  exact List.any_eq_true.mpr ⟨p,hp,decide_eq_true he⟩
def pL:cf->Str
 | .put x _=>x
 | .copy x _=>x
 | .add x _=>x
 | .read x=>x
 | .tell x=>x
theorem AR (dd:cf):eV (jx dd) 1=some (.str (pL dd)):=by cases dd <;> exact cR
theorem fz.name {xs:List Str}{dd:cf}(h:fz xs dd):pL dd∈xs:=by
 cases dd with
 | put x n=>exact h.1
 | copy x y=>exact h.1
 | add x n=>exact h.1
 | read x=>exact h
 | tell x=>exact h
theorem bU.put {H:Hp}{b p:Addr}{o:HO}(h:bU H b)(n:b≠p):bU (upd H p o) b:=by
 obtain⟨x,y,e,z⟩:=h
 exact⟨x,y,by rw [au n];exact e,z⟩
section
variable {X:Cx}
end
section
variable {a0 a1 z:V}
end
section
variable {C D:Addr}{H H':Hp}{wp p pl d nl sl:Addr}{plv:V}{nums:List Int}{S:RS}{m:Nat}
end
section
variable (C D:Addr)
end
section
variable {C D:Addr}{H H':Hp}{wp p pl d nl sl st d2 tl bl np:Addr}{plv:V}{nums nums':List Int}{S S':RS}{m m':Nat}
end
section
variable (C D:Addr)
end
section
variable {C D:Addr}{H0 H H1 H2:Hp}{wp p pl d nl sl st st' d2 tl bl np b:Addr}{plv:V}{nums more:List Int}{S S':RS}{m m':Nat}
end
section
variable {X:Cx}
def Fg:R2:=fun x y H Q=>∃a b xs ys,x=.ref a/\y=.ref b/\H a=some (.tup xs)/\H b=some (.tup ys)/\xs.length+ys.length<=sizeLine/\∀t H',H' t=some (.tup (xs++ys))->ao H H'->Q (.ref t) H'
theorem j7:dX X (binaryOp .Add) Fg:=by
 intro pins s GK H x y v u Q I rx ry h
 obtain⟨a,b,xs,ys,rfl,rfl,ha,hb,hz,q⟩:=h
 cases rx
 cases ry
 obtain⟨its,r1,p1,_⟩:=I.tuple (av.of ha)
 obtain⟨its2,r2,p2,_⟩:=I.tuple (av.of hb)
 by_cases hx:xs=[]
 ·subst hx
  have hi:its=[]:=r1.qG.mpr rfl
  subst hi
  obtain⟨⟨cls,dd,data,sl⟩,ho,hc,n,hd⟩:=id p1
  obtain⟨⟨cls2,dd2,data2,sl2⟩,ho2,hc2,n2,hd2⟩:=id p2
  simp only at hc hd hc2 hd2
  subst hc hd hc2 hd2
  exact concat_meets ⟨_,ho,rfl⟩ ⟨_,ho2,rfl⟩ noFill_tuple_add seq_tuple_add PySem.F.slot_tuple_add PySem.F.entry_tuple_add (PySem.F.args_tuple_add_2 _ _)
   (tuple_addW0 a b [].toArray its2.toArray n n2 dd dd2 sl sl2 (by simp)) ⟨ho,ho2,⟨.ref b,H,I,rfl,q b H hb (ao.refl H)⟩⟩
 ·refine HT.CI p1 p2 (fun z=>hx (r1.qG.mp z)) (fun z=>⟨.ref a,H,I,rfl,q a H (by rw [r2.qG.mp z,Im];exact ha) (ao.refl H)⟩) (fun z=>?_) (by rw [<-r1.length,<-r2.length];exact hz)
  have fr:=I.aW.fresh (a:=s.heap.objs.size) (GQ _)
  refine⟨.ref s.heap.objs.size,_,I.laid (t':=s.toks) (o:=.tup (xs++ys)) (fun b ob q=>GV _ q) (GQ _) ?_,rfl,q _ _ af (ao.new fr)⟩
  exact⟨by rw [GW];exact hz,_,r1.append r2,⟨_,GX _ rfl,rfl,_,rfl,rfl⟩⟩
end
section
variable {ps:List Piece}{nums more:List Int}{S S0:RS}{m n:Nat}
end
section
variable {ps:List Piece}{nums more:List Int}{S:RS}{m n:Nat}
end
inductive Call where
 | hand (ns:List Int)
 | go (n:Nat)
structure Ex where
 S:RS
 nums:List Int
 m:Nat
structure WA where
 wp:Addr
 p:Addr
 pl:Addr
 d:Addr
 nl:Addr
 sl:Addr
section
variable {C D:Addr}{H H' H0:Hp}{x y:WA}{pv pv':V}{s s':Ex}{c:Addr}{o:HO}
end
section
variable (C D:Addr)
end
section
variable {C D:Addr}{H0 H H1:Hp}{w0 w1 w2:WA}{wl cl nb:Addr}{plv ov:V}{x0 x1 x2 x':Ex}{n0 n1 n':List Int}{vs:List V}{cs:List Call}
end
structure AS (K:GP) (mg:Str->Option Value) (nm:Str) (a:Addr) (D:List (Str×Addr)):Prop where
 pM:mg nm=some (.ref a)
 lk:∃es ep,K.lookup a=some ⟨.type "dict",none,.dict es ep,#[]⟩/\KTD.Rows (fun d v=>v=Value.ref d) es.toList D
section
variable {prog:Program}{w:World}{A:Around}{E:Value->Shared->Prop}{s:Shared}
theorem AU {a d:Addr}{o:Obj}{es:Array DictEntry}{ep:Nat}{k:Str}{t:Tok}{D:List (Str×Addr)}{Q:Option Value->Shared->Prop}(ho:s.heap.get? a=some o)(hd:o.data=.dict es ep)
  (hr:KTD.Rows (fun d v=>v=Value.ref d) es.toList D) (ha:KTD.datumAt k D=some d) (q:Q (some (.ref d)) { s with toks:=s.toks+1 }):wpAny (model prog w) A (dictGet a (.str k t)) Q E s:=by
 unfold dictGet
 try with_reducible refine JB ?_
 refine Jx (J2 (Jx (KTD.kt_dictFind_strs (s:={ s with toks:=s.toks+1 }) ho hd (by have:=hr.exact;obtain⟨l⟩:=es;simpa using this) ?_)))
 have hq:Q (findBy (fun k v=>v.isStr k) es k) { s with toks:=s.toks+1 }:=by
  obtain⟨v,hv,rfl⟩:=hr.find_some ha
  have e:findBy (fun k v=>v.isStr k) es k=some (.ref d):=by
   rw [<-hv]
   obtain⟨l⟩:=es
   simp [findBy]
  rw [e]
  exact q
 rw [findBy_of_findIdx?] at hq
 cases hi:es.findIdx? fun e=>e.key.isStr k with
 | some i=>rw [hi] at hq;exact Jx (wpAny_dictEntries (s:={ s with toks:=s.toks+1 }) ho hd (Jy hq))
 | none=>rw [hi] at hq;exact Jy hq
theorem AV {a d:Addr} {o:Obj} {es:Array DictEntry} {ep:Nat} {k:Str} {t:Tok} {D:List (Str×Addr)} {Q:Value->Shared->Prop} (ty:s.TypeIs (.ref a) "dict") (ho:s.heap.get? a=some o) (hd:o.data=.dict es ep)
  (hr:KTD.Rows (fun d v=>v=Value.ref d) es.toList D) (ha:KTD.datumAt k D=some d) (q:Q (.ref d) { s with toks:=s.toks+1 }):wpAny (model prog w) A (getItem (.ref a) (.str k t)) Q E s:=by
 unfold getItem
 try with_reducible refine JB ?_
 refine Jx (J4 ty (by decide) (Jx (wpAny_callSpecial?_slot (name:=Str.ofString "__getitem__") ty slot_dict_getitem (JC slot_dict_getitem ty entry_dict_getitem ?_ (args_dict_getitem _ _)))))
 show wpAny _ _ (dictGet a (.str k t) >>= fun _=>_) _ _ s
 exact Jx (AU ho hd hr ha (Jy ⟨_,rfl,Jy q⟩))
end
section
variable {X:Cx}
theorem qV {nm:Str} {a:Addr} {D:List (Str×Addr)} {i:Expr} {p pos:Pos} {ty:TE} (G:AS X.K X.mg nm a D) (hg:Gl X nm) (hi:PE X i ty) (hs:xP i) (hdb:(nm == ("__debug__" : Str))=false:=by decide) :
  PE X (.Subscript (.Name nm p) i pos) (fun GK H Q=>ty GK H fun y H1=>∃x d,y=.str x/\KTD.datumAt x D=some d/\Q (.ref d) H1):=by
 intro pins s GK H Q I h
 obtain⟨es,ep,hk,hr⟩:=G.lk
 refine qQ PySem.F.slot_dict_getitem.lookup hs (bg (fT (v:=.ref a) hg G.pM rfl hdb pins s GK H (fun x H1=>x=.ref a/\ty GK H1 fun y H1=>∃x d,y=.str x/\KTD.datumAt x D=some d/\Q (.ref d) H1) I ⟨rfl,h⟩) fun u s1 ⟨x,H1,I1,rx,ex,q1⟩=>?_)
 subst ex
 obtain rfl:u=Value.ref a:=rx
 refine bg (hi pins s1 GK H1 _ I1 q1) fun iv s2 ⟨y,H2,I2,ry,k,d,ey,hd,q2⟩=>?_
 subst ey
 obtain⟨t,rfl⟩:=(show ∃t,iv=Value.str k t from ry)
 have ho:=I2.iK a _ hk
 exact⟨⟨_,ho,rfl⟩,AV ⟨_,ho,rfl⟩ ho rfl hr hd ⟨.ref d,H2,I2.tok _,rfl,q2⟩⟩
end
def pick (w:Str)(xs:List V)(ks:List Str):List V:=((xs.zip ks).filter fun p=>decide (p.2=w)).map (·.1)
def jB (w:Str)(xs:List V)(ks:List Str)(i:Nat):List V:=(((xs.zip ks).take i).filter fun p=>decide (p.2=w)).map (·.1)
theorem xR {w:Str}{xs:List V}{ks:List Str}{i:Nat}{x:V}{k:Str}(hx:xs[i]?=some x)(hk:ks[i]?=some k):jB w xs ks (i+1)=jB w xs ks i++(if k=w then [x] else []):=by
 have hz:(xs.zip ks)[i]?=some (x,k):=by rw [List.getElem?_zip_eq_some];exact⟨hx,hk⟩
 unfold jB
 rw [Hi,hz,Jf,G3]
 congr 1
 by_cases h:k=w
 ·rw [if_pos h];simp [h]
 ·rw [if_neg h];simp [h]
theorem zd {w:Str}{xs:List V}{ks:List Str}:jB w xs ks (min xs.length (ks.map V.str).length)=pick w xs ks:=by
 unfold jB pick
 rw [GO,Iw (by rw [List.length_zip];exact GQ _)]
theorem ze {w:Str}{xs:List V}{ks:List Str}{i:Nat}:(jB w xs ks i).length<=i:=by
 unfold jB
 rw [GO]
 exact GY (HV ..) (by rw [Hm];exact Nat.min_le_left ..)
theorem av.same {K:GP}{H H':Hp}{a:Addr}{xs:List V}(h:av K H a xs)(s:ao H H'):av K H' a xs:=by
 rcases h with h | h
 ·rcases h with h | h
  ·exact .inl (.inl (s _ _ h))
  ·obtain⟨b,hb⟩:=h
   exact .inl (.inr ⟨b,s _ _ hb⟩)
 ·exact .inr h
def qW (K:GP):Sp:=fun vs H Q _=>∃(t s:Addr) (v0:V) (xs:List V) (ks:List Str) (w:Str),vs=[.ref t,.ref s,.str w]/\H t=some (.tup (v0::xs))/\av K H s (ks.map V.str)/\xs.length<=1000 /\
 ∀l H',H' l=some (.lst (pick w xs ks))->ao H H'->Q (.ref l) H'
def KTup (K:GP)(a:Addr)(ks:List Str):Prop:=∃(o:Obj) (its:Array Value) (n:Nat),K.lookup a=some o/\o.cls=.type "tuple" /\ o.data=.seq its n/\its.size<=sizeLine/\Vals (ks.map V.str) its.toList
structure uG (K:GP) (mg:Str->Option Value) (aE s0 s1 s2 s3:Addr):Prop where
 tab:AS K mg "END_PARTS" aE [("stop",s0),("go",s1),("less",s2),("is",s3)]
 q0:KTup K s0 []
 q1:KTup K s1 ["piece"]
 q2:KTup K s2 ["name", "number", "piece", "piece"]
 q3:KTup K s3 ["name", "number", "piece", "piece"]
def aR:End->List Nat
 | .stop=>[]
 | .go p=>[p]
 | .bu _ _ _ p q=>[p,q]
def kE:End->List Str
 | .stop=>[]
 | .go _=>["piece"]
 | .bu ..=>["name", "number", "piece", "piece"]
def wE:End->Str
 | .stop => "stop"
 | .go _ => "go"
 | .bu b ..=>wT b
theorem zf (e:End):∃xs,cx e=.str (wE e)::xs/\xs.length<=1000/\pick "piece" xs (kE e)=(aR e).map fun k=>V.int (k:Nat):=by
 cases e with
 | stop=>exact⟨[],rfl,by decide,rfl⟩
 | go p=>exact⟨_,rfl,by show 1<=1000;decide,by simp [pick,kE,aR]⟩
 | bu b x n p q =>
  refine⟨_,rfl,by show 4<=1000;decide,?_⟩
  have h1:¬("name" : Str) = "piece" := by decide +kernel
  have h2:¬("number" : Str) = "piece" := by decide +kernel
  simp [pick,kE,aR,h1,h2]
theorem uG.at_ {K:GP} {mg:Str->Option Value} {aE s0 s1 s2 s3:Addr} (G:uG K mg aE s0 s1 s2 s3) (e:End):∃s,KTD.datumAt (wE e) [(("stop" : Str),s0),("go",s1),("less",s2),("is",s3)]=some s/\KTup K s (kE e):=by
 have hit:∀{k:Str} {d:Addr} {D:List (Str×Addr)},KTD.datumAt k ((k,d)::D)=some d:=fun {k d D}=>by
  show (if decide (k=k)=true then some d else KTD.datumAt k D)=some d
  rw [if_pos (decide_eq_true rfl)]
 have miss:∀{k x:Str} {d:Addr} {D:List (Str×Addr)} {o:Option Addr},¬k=x->KTD.datumAt k D=o->KTD.datumAt k ((x,d)::D)=o:=fun {k x d D o} h e=>by
  show (if decide (k=x)=true then some d else KTD.datumAt k D)=o
  rw [if_neg (by rw [decide_eq_false h];decide)]
  exact e
 cases e with
 | stop=>exact⟨s0,hit,G.q0⟩
 | go p=>exact⟨s1,miss (show ¬(("go" : Str) = "stop") by decide +kernel) hit,G.q1⟩
 | bu b x n p q =>
  cases b with
  | true=>exact⟨s2,miss (show ¬(("less" : Str) = "stop") by decide +kernel) (miss (show ¬(("less" : Str) = "go") by decide +kernel) hit),G.q2⟩
  | false=>exact⟨s3,miss (show ¬(("is" : Str) = "stop") by decide +kernel) (miss (show ¬(("is" : Str) = "go") by decide +kernel) (miss (show ¬(("is" : Str) = "less") by decide +kernel) hit)),G.q3⟩
def jg:Sp:=fun vs H Q _=>∃(ea:Addr) (e:End),vs=[.ref ea]/\H ea=some (.tup (cx e))/\∀t H',H' t=some (.tup ((aR e).map fun k=>V.int (k:Nat)))->ao H H'->Q (.ref t) H'
end L2
namespace LS
open PySem
def Up (xs:Array Nat):Prop:=∀(i j:Nat) (a b:Nat),i<j->xs[i]?=some a->xs[j]?=some b->a<b
theorem AW {xs:Array Nat}{j:Nat}(up:Up xs):∀(fuel lo hi:Nat),hi-lo<=fuel->lo<=hi->hi<=xs.size ->
  (∀i a,i<lo->xs[i]?=some a->a<j)->(∀i a,hi<=i->xs[i]?=some a->j<=a) ->
  (∀i a,i<SetTable.below.go xs j fuel lo hi->xs[i]?=some a->a<j)/\(∀i a,SetTable.below.go xs j fuel lo hi<=i->xs[i]?=some a->j<=a)/\SetTable.below.go xs j fuel lo hi<=xs.size:=by
 intro fuel
 induction fuel with
 | zero =>
  intro lo hi h1 h2 h3 h4 h5
  have e:lo=hi:=by omega
  subst e
  unfold SetTable.below.go
  exact⟨h4,h5,h3⟩
 | succ f ih =>
  intro lo hi h1 h2 h3 h4 h5
  unfold SetTable.below.go
  by_cases hl:lo<hi
  ·rw [if_pos hl]
   dsimp only
   have hm:(lo+hi) / 2<hi:=by omega
   have hm2:lo<=(lo+hi) / 2:=by omega
   generalize (lo+hi) / 2=mid at hm hm2
   have hs:mid<xs.size:=by omega
   have hg:xs[mid]?=some xs[mid]:=by simp [hs]
   have hd:xs.getD mid j=xs[mid]:=by simp [Array.getD,hs]
   rw [hd]
   by_cases hc:xs[mid]<j
   ·rw [if_pos hc]
    refine ih (mid+1) hi (by omega) (by omega) h3 (fun i a hi' he=>?_) h5
    by_cases e:i=mid
    ·subst e;rw [hg] at he;cases he;exact hc
    ·have:=up i mid a _ (by omega) he hg;omega
   ·rw [if_neg hc]
    refine ih lo mid (by omega) hm2 (by omega) h4 (fun i a hi' he=>?_)
    by_cases e:i=mid
    ·subst e;rw [hg] at he;cases he;omega
    ·have:=up mid i _ a (by omega) hg he;omega
  ·rw [if_neg hl]
   have e:lo=hi:=by omega
   subst e
   exact⟨h4,h5,h3⟩
theorem oG {xs:Array Nat}{j:Nat}(up:Up xs) :
    (∀i a,i<SetTable.below xs j->xs[i]?=some a->a<j)/\(∀i a,SetTable.below xs j<=i->xs[i]?=some a->j<=a)/\SetTable.below xs j<=xs.size :=
  AW up xs.size 0 xs.size (by omega) (Hg _) (GQ _) (fun _ _ h=>absurd h (Nat.not_lt_zero _)) (fun i a h e=>by
    have:xs[i]?=none:=by simp;omega
    rw [this] at e;cases e)
theorem uH {α : Type}{xs:Array α}{p:Nat}{x:α}(hp:p<=xs.size)(i:Nat) :
  (SetTable.insertAt xs p x)[i]?=if i<p then xs[i]? else if i=p then some x else xs[i-1]?:=by
 unfold SetTable.insertAt
 have h1:(xs.extract 0 p).size=p:=by simp;omega
 rw [Array.getElem?_append]
 have h2:((xs.extract 0 p).push x).size=p+1:=by simp;omega
 rw [h2]
 by_cases a:i<p
 ·rw [if_pos (by omega),if_pos a,Array.getElem?_push,h1,if_neg (by omega)]
  rw [Array.getElem?_extract]
  simp;omega
 ·rw [if_neg a]
  by_cases b:i=p
  ·subst b
   rw [if_pos (by omega),if_pos rfl,Array.getElem?_push,h1,if_pos rfl]
  ·rw [if_neg (by omega),if_neg b]
   rw [Array.getElem?_extract]
   have:p+(i-(p+1))=i-1:=by omega
   rw [this]
   by_cases c:i-1<xs.size
   ·simp;omega
   ·have:xs[i-1]?=none:=by simp;omega
    rw [this];simp
theorem Up.insert {xs:Array Nat}{j:Nat}(up:Up xs)(hn:xs[SetTable.below xs j]?≠some j):Up (SetTable.insertAt xs (SetTable.below xs j) j):=by
 obtain⟨h1,h2,h3⟩:=oG (j:=j) up
 generalize SetTable.below xs j=p at h1 h2 h3 hn
 have h2':∀i a,p<=i->xs[i]?=some a->j<a:=fun i a hi e=>by
  have q:=h2 i a hi e
  by_cases z:i=p
  ·subst z
   rcases Nat.lt_or_ge j a with c | c
   ·exact c
   ·have:a=j:=by omega
    subst this;exact absurd e hn
  ·have hps:p<xs.size:=by
    have:i<xs.size:=by
     rcases Nat.lt_or_ge i xs.size with c | c
     ·exact c
     ·have:xs[i]?=none:=by simp;omega
      rw [this] at e;cases e
    omega
   have e1:xs[p]?=some xs[p]:=by simp [hps]
   have q1:=h2 p _ (GQ _) e1
   have q2:=up p i _ _ (by omega) e1 e
   omega
 intro a b x y hab ha hb
 rw [uH h3] at ha hb
 by_cases c1:a<p
 ·rw [if_pos c1] at ha
  by_cases d1:b<p
  ·rw [if_pos d1] at hb;exact up a b _ _ hab ha hb
  ·rw [if_neg d1] at hb
   by_cases d2:b=p
   ·rw [if_pos d2] at hb;cases hb;exact h1 a _ c1 ha
   ·rw [if_neg d2] at hb
    exact Jd (h1 a _ c1 ha) (h2' (b-1) _ (by omega) hb)
 ·rw [if_neg c1] at ha
  by_cases c2:a=p
  ·rw [if_pos c2] at ha;cases ha
   rw [if_neg (by omega),if_neg (by omega)] at hb
   exact h2' (b-1) _ (by omega) hb
  ·rw [if_neg c2] at ha
   rw [if_neg (by omega),if_neg (by omega)] at hb
   exact up (a-1) (b-1) _ _ (by omega) ha hb
def Rp (t:SetTable):Prop:=t.plain=true->Up t.place
theorem AX {t:SetTable}{f:Nat->Int}{h:Int}:∀(fuel:Nat) (p:SetTable.Probe) (j:Nat) (d:Option Nat),(∀x,p.dummy=some x->t.place[SetTable.below t.place x]?≠some x) ->
  SetTable.probe.go t f h fuel p=some (.empty j d)->t.place[SetTable.below t.place (d.getD j)]?≠some (d.getD j):=by
 intro fuel
 induction fuel with
 | zero=>intro p j d _ e;unfold SetTable.probe.go at e;cases e
 | succ n ih =>
  intro p j d hd e
  unfold SetTable.probe.go at e
  have adv:∀q:SetTable.Probe,(t.advance q).dummy=q.dummy:=fun q=>by unfold SetTable.advance;split <;> rfl
  cases hs:t.slot p.j with
  | empty =>
   rw [hs] at e
   dsimp only at e
   injection e with e
   injection e with e1 e2
   subst e1;subst e2
   unfold SetTable.slot at hs
   dsimp only at hs
   split at hs
   ·cases hs
   ·rename_i hne
    cases hdm:p.dummy with
    | none=>intro z;exact hne (by rw [show (none:Option Nat).getD p.j=p.j from rfl] at z;simpa using z)
    | some x=>exact hd x hdm
  | dummy =>
   rw [hs] at e
   dsimp only at e
   refine ih _ j d (fun x hx=>?_) e
   rw [adv] at hx
   injection hx with hx
   subst hx
   unfold SetTable.slot at hs
   dsimp only at hs
   split at hs
   ·cases hs
   ·rename_i hne
    intro z;exact hne (by simpa using z)
  | live i =>
   rw [hs] at e
   dsimp only at e
   split at e
   ·cases e
   ·exact ih _ j d (fun x hx=>hd x (by rw [adv] at hx;exact hx)) e
theorem uI {t:SetTable}{h:Int}{j:Nat}{b:Bool}(e:t.freeSlot h=some (j,b)):t.place[SetTable.below t.place j]?≠some j:=by
 unfold SetTable.freeSlot at e
 split at e
 ·rename_i j' d hp
  injection e with e
  injection e with e1 e2
  subst e1
  unfold SetTable.probe at hp
  exact AX _ _ _ _ (fun x hx=>by cases hx) hp
 ·cases e
theorem Rp.standIn (t:SetTable)(n:Nat):Rp (t.standIn n):=fun h=>by cases h
theorem Rp.layNew {t:SetTable}(r:Rp t)(es:Array (Int×Value))(h:Int)(x:Value):Rp (layNew t es h x).2.1/\(layNew t es h x).2.1.led=t.led:=by
 unfold PySem.layNew
 split
 ·rename_i j b e
  dsimp only
  unfold SetTable.orStandIn
  split
  ·refine⟨fun hp=>?_,rfl⟩
   exact (r hp).insert (uI e)
  ·exact⟨Rp.standIn _ _,rfl⟩
 ·exact⟨Rp.standIn _ _,rfl⟩
theorem AY (n:Nat)(f:Nat->Option Nat):Up (((Hs n).filterMap fun j=>(f j).map fun k=>(j,k)).map (·.1)).toArray:=by
 have hs:Ic (· < ·) (((Hs n).filterMap fun j=>(f j).map fun k=>(j,k)).map (·.1)):=by
  have hl:List.Sublist (((Hs n).filterMap fun j=>(f j).map fun k=>(j,k)).map (·.1)) (Hs n):=by
   generalize Hs n=l
   induction l with
   | nil=>exact List.Sublist.refl _
   | cons a l ih =>
    rw [IB]
    cases e:f a with
    | none=>exact ih.cons a
    | some k=>exact ih.cons₂ a
  exact Ic.sublist hl List.pairwise_lt_range
 intro i j a b hij ha hb
 rw [List.getElem?_toArray] at ha hb
 have hi:i<_:=(G7.mp ha).1
 have hj:j<_:=(G7.mp hb).1
 have:=List.pairwise_iff_getElem.mp hs i j hi hj hij
 rw [(G7.mp ha).2,(G7.mp hb).2] at this
 exact this
theorem Rp.relayAll (t:SetTable)(es:Array (Int×Value))(n:Nat):Rp (relayAll t es n).2.1/\(relayAll t es n).2.1.led=t.led:=by
 unfold PySem.relayAll
 split
 ·rename_i t' order e
  dsimp only
  split
  ·unfold SetTable.relaid SetTable.laid at e
   simp only [bind,Option.bind] at e
   split at e
   ·cases e
   ·rename_i owner _
    injection e with e
    injection e with e1 _
    subst e1
    exact⟨fun _=>AY _ _,rfl⟩
  ·exact⟨Rp.standIn _ _,rfl⟩
 ·exact⟨Rp.standIn _ _,rfl⟩
theorem xS {xs:Array Nat}(up:Up xs){i a:Nat}(e:xs[i]?=some a):SetTable.below xs (a+1)=i+1:=by
 obtain⟨h1,h2,h3⟩:=oG (j:=a+1) up
 have hi:i<xs.size:=(Array.getElem?_eq_some_iff.mp e).1
 rcases Nat.lt_trichotomy (SetTable.below xs (a+1)) (i+1) with c | c | c
 ·have:=h2 i a (by omega) e;omega
 ·exact c
 ·have hs:i+1<xs.size:=by omega
  have e':xs[i+1]?=some xs[i+1]:=by simp [hs]
  have q1:=h1 (i+1) _ c e'
  have q2:=up i (i+1) _ _ (by omega) e e'
  omega
theorem xT {xs:Array Nat}(up:Up xs):SetTable.below xs 0=0:=by
 obtain⟨h1,h2,h3⟩:=oG (j:=0) up
 rcases Nat.eq_zero_or_pos (SetTable.below xs 0) with c | c
 ·exact c
 ·have e':xs[0]?=some xs[0]:=by simp
  have:=h1 0 _ c e';omega
theorem Up.bB {xs:Array Nat}(h:xs.size<=1):Up xs:=fun i j a b hij ha hb=>by
 have:=(Array.getElem?_eq_some_iff.mp hb).1;omega
open PySem.Spec PyProof.Rows
section
variable {prog:Program}{w:World}{K:Type}[DecidableEq K]{knd:KeyKind prog w K}
variable {A:Around}{E:Value->Shared->Prop}{s:Shared}
def Ent (knd:KeyKind prog w K)(e:Int×Value)(k:K):Prop:=knd.is k e.2=true/\e.1=knd.hash k/\e.2.scannable=true
structure dG (knd:KeyKind prog w K) (h:Heap) (a:Addr) (ks:List K) (o:Obj) (es:Array (Int×Value)) (ep:Nat) (t:SetTable):Prop where
 at_:h.get? a=some o
 ex:o.ExactSet
 data:o.data=.set es ep t
 ents:∃ls:List K,ls.Perm ks/\Paired (Ent knd) es.toList ls
 nd:ks.Nodup
 bB:es.size<scanBound
 fits:t.fits es.size=true
 led:t.led = !(w.params.followText "set-order")
 up:Rp t
def eE (knd:KeyKind prog w K)(h:Heap)(a:Addr)(ks:List K):Prop:=∃o es ep t,dG knd h a ks o es ep t
theorem jL {α β : Type}{F:α->β->Prop}:∀{l l':List α},l.Perm l'->∀{m':List β},Paired F l' m'->∃m,m.Perm m'/\Paired F l m:=by
 intro l l' p
 induction p with
 | nil=>intro m' h;exact⟨m',.refl _,h⟩
 | cons x p ih =>
  intro m' h
  cases h with
  | cons r t=>obtain⟨m,q,e⟩:=ih t;exact⟨_,q.cons _,.cons r e⟩
 | swap x y l =>
  intro m' h
  cases h with
  | cons r t=>cases t with
   | cons r' t'=>exact⟨_,.swap _ _ _,.cons r' (.cons r t')⟩
 | trans p q ih1 ih2 =>
  intro m' h
  obtain⟨m1,a1,b1⟩:=ih2 h
  obtain⟨m2,a2,b2⟩:=ih1 b1
  exact⟨m2,a2.trans a1,b2⟩
theorem iO {α β : Type}{F:α->β->Prop}:∀{l:List α} {m:List β},Paired F l m->(∀x∈l,∃y∈m,F x y)/\(∀y∈m,∃x∈l,F x y)
 | _,_,.nil=>⟨(fun _ h=>nomatch h),(fun _ h=>nomatch h)⟩
 | _,_,.cons r t=>by
  obtain⟨h1,h2⟩:=iO t
  refine⟨fun x hx=>?_,fun y hy=>?_⟩
  ·rcases GS.mp hx with rfl | hx
   ·exact⟨_,GZ ..,r⟩
   ·obtain⟨y,hy,f⟩:=h1 x hx;exact⟨y,G1 _ hy,f⟩
  ·rcases GS.mp hy with rfl | hy
   ·exact⟨_,GZ ..,r⟩
   ·obtain⟨x,hx,f⟩:=h2 y hy;exact⟨x,G1 _ hx,f⟩
theorem nW {α β : Type}{F:α->β->Prop}{x:α}{y:β}(f:F x y):∀{l:List α} {m:List β},Paired F l m->Paired F (l++[x]) (m++[y])
 | _,_,.nil=>.cons f .nil
 | _,_,.cons r t=>.cons r (nW f t)
variable {a:Addr}{ks:List K}{o:Obj}{es:Array (Int×Value)}{ep:Nat}{t:SetTable}{h h':Heap}
theorem dG.elems (S:dG knd h a ks o es ep t):ElemsOf knd es.toList:=fun e he=>by
 obtain⟨ls,_,p⟩:=S.ents
 obtain⟨k,_,f⟩:=(iO p).1 e he
 exact⟨⟨k,f.1,f.2.1⟩,f.2.2⟩
theorem dG.len (S:dG knd h a ks o es ep t):es.size=ks.length:=by
 obtain⟨ls,q,p⟩:=S.ents
 rw [<-Hw,p.length,q.length_eq]
theorem dG.mem (S:dG knd h a ks o es ep t)(k:K):k∈ks↔∃e∈es.toList,knd.is k e.2=true:=by
 obtain⟨ls,q,p⟩:=S.ents
 rw [<-q.mem_iff]
 constructor
 ·intro hk
  obtain⟨e,he,f⟩:=(iO p).2 k hk
  exact⟨e,he,f.1⟩
 ·rintro⟨e,he,f⟩
  obtain⟨k',hk',f'⟩:=(iO p).1 e he
  rw [knd.inj e.2 k k' f f'.1];exact hk'
theorem dG.setOf (S:dG knd h a ks o es ep t):h.SetOf knd a (fun k=>decide (k∈ks)) ks.length :=
 ⟨o,es,ep,t,S.at_,S.ex,S.data,S.elems,fun k=>by rw [decide_eq_true_eq];exact S.mem k,S.bB,S.fits,S.len⟩
theorem dG.keep (S:dG knd h a ks o es ep t)(k:∀o,h.get? a=some o->h'.get? a=some o):dG knd h' a ks o es ep t:={ S with at_:=k _ S.at_ }
theorem eE.keep (S:eE knd h a ks)(k:∀o,h.get? a=some o->h'.get? a=some o):eE knd h' a ks:=let ⟨o,es,ep,t,S⟩:=S;⟨o,es,ep,t,S.keep k⟩
theorem eE.setOf (S:eE knd h a ks):h.SetOf knd a (fun k=>decide (k∈ks)) ks.length:=let ⟨_,_,_,_,S⟩:=S;S.setOf
theorem uJ {o:Obj}{es es':Array (Int×Value)}{ep:Nat}{t t':SetTable}(hd:o.data=.set es ep t):Obj.putSet es' t' o={ o with data:=.set es' (ep+1) t' }:=putSet_of es' t' hd
theorem dG.store {es':Array (Int×Value)}{t':SetTable}{ks':List K}(S:dG knd h a ks o es ep t)(he:∃ls:List K,ls.Perm ks'/\Paired (Ent knd) es'.toList ls)(nd:ks'.Nodup)(bB:es'.size<scanBound)
  (fits:t'.fits es'.size=true) (led:t'.led=t.led) (up:Rp t'):dG knd (h.update a (Obj.putSet es' t')) a ks' { o with data:=.set es' (ep+1) t' } es' (ep+1) t' where
 at_:=by
  have q:=HJ (Obj.putSet es' t') S.at_ (by rw [uJ S.data];rfl)
  rw [uJ S.data] at q
  exact q
 ex:=S.ex
 data:=rfl
 ents:=he
 nd:=nd
 bB:=bB
 fits:=fits
 led:=led.trans S.led
 up:=up
theorem oH {g:Bool->Sem Unit}(hg:∀(b:Bool) (s₁ : Shared) (Q':Unit->Shared->Prop),Q' () s₁->wpAny (model prog w) A (g b) Q' E s₁){es1:Array (Int×Value)}{t2:SetTable}{ks':List K}
  (S:dG knd s.heap a ks o es ep t) (he:∃ls:List K,ls.Perm ks'/\Paired (Ent knd) es1.toList ls) (nd:ks'.Nodup) (bB:es1.size<scanBound) (fits:t2.fits es1.size=true) (led:t2.led=t.led) (up:Rp t2) {wd:Bool}
  {R:Option Bool->Shared->Prop} (q:∀h',Hk a s.heap h'->eE knd h' a ks'->R (some true) { s with heap:=h' }) :
  wpAny (model prog w) A (storeSet a es1 t2 >>= fun _=>if (!wd&&t2.tooFull)=true then g (relayAll t2 es1 (SetTable.grown es1.size)).2.2 >>= fun _ =>
   storeSet a (relayAll t2 es1 (SetTable.grown es1.size)).1 (relayAll t2 es1 (SetTable.grown es1.size)).2.1 >>= fun _=>pure (some true) else pure (some true)) R E s:=by
 refine Jx (wpAny_storeSet_of S.at_ S.data ?_ (fits_of_scanBound bB))
 have S1:=S.store he nd bB fits led up
 have b1:=Hk.update s.heap a (Obj.putSet es1 t2)
 by_cases hc:(!wd&&t2.tooFull)=true
 ·rw [if_pos hc]
  have p1:=relayAll_perm t2 es1 (SetTable.grown es1.size)
  have p2:=relayAll_fits t2 es1 (SetTable.grown es1.size)
  have p3:=Rp.relayAll t2 es1 (SetTable.grown es1.size)
  generalize relayAll t2 es1 (SetTable.grown es1.size)=R3 at p1 p2 p3
  obtain⟨es3,t3,gv⟩:=R3
  obtain⟨ls,l1,l2⟩:=he
  obtain⟨ls3,l3,l4⟩:=jL p1 l2
  have z:es3.size=es1.size:=by rw [<-Hw,p1.length_eq,Hw]
  have few3:es3.size<scanBound:=by rw [z];exact bB
  refine Jx (hg _ _ _ ?_)
  refine Jx (wpAny_storeSet_of S1.at_ S1.data ?_ (fits_of_scanBound few3))
  exact Jy (q _ (b1.trans (Hk.update _ a _)) ⟨_,_,_,_,S1.store ⟨ls3,l3.trans l1,l4⟩ nd few3 p2 p3.2 p3.1⟩)
 ·rw [if_neg hc]
  exact Jy (q _ b1 ⟨_,_,_,_,S1⟩)
theorem xU {k:K}{x:Value}{Q:Bool->Shared->Prop}(hk:knd.is k x=true)(hsc:x.scannable=true)(S:eE knd s.heap a ks)(room:ks.length+1<scanBound)
  (q:∀h',Hk a s.heap h'->eE knd h' a (if k∈ks then ks else ks++[k])->Q (!decide (k∈ks)) { s with heap:=h' }) :
  wpAny (model prog w) A (setAddHashed a x (knd.hash k)) Q E s:=by
 obtain⟨o,es,ep,t,S⟩:=S
 have few1:es.size+1<scanBound:=by rw [S.len];exact room
 unfold setAddHashed setAddHashedIn
 refine JB (Jx (JT S.at_ S.data S.fits ?_))
 dsimp only
 rw [byScan_of hsc S.bB S.elems]
 simp only [↓reduceIte]
 unfold setAddByScan
 refine Jx (Jx (JF ?_))
 refine Jx (wpAny_setScan_of hk S.at_ S.data S.fits S.elems ?_)
 cases hr:List.findIdx? (fun e=>knd.is k e.2) es.toList with
 | some j =>
  obtain⟨hj,hpj,_⟩:=List.findIdx?_eq_some_iff_getElem.mp hr
  have hin:k∈ks:=(S.mem k).mpr ⟨es.toList[j],HK hj,hpj⟩
  refine Jy (Jy ?_)
  have:=q s.heap (Hk.refl a s.heap) (by rw [if_pos hin];exact⟨o,es,ep,t,S⟩)
  rw [decide_eq_true hin] at this
  exact this
 | none =>
  have hin:¬k∈ks:=fun z=>by
   obtain⟨e,he,hp⟩:=(S.mem k).mp z
   have:=List.findIdx?_eq_none_iff.mp hr e he
   rw [hp] at this;exact Bool.noConfusion this
  rw [if_neg hin,decide_eq_false hin] at q
  have p1:=layNew_perm t es (knd.hash k) x
  have p2:=layNew_fits t es (knd.hash k) x
  have p3:=S.up.layNew es (knd.hash k) x
  dsimp only
  generalize layNew t es (knd.hash k) x=L at p1 p2 p3 ⊢
  obtain⟨es1,t1,wd,gv⟩:=L
  dsimp only at p1 p2 p3 ⊢
  rw [Array.toList_push] at p1
  have hE:∃ls:List K,ls.Perm (ks++[k])/\Paired (Ent knd) es1.toList ls:=by
   obtain⟨ls,l1,l2⟩:=S.ents
   obtain⟨m,m1,m2⟩:=jL p1 (nW (F:=Ent knd) (x:=(knd.hash k,x)) (y:=k) ⟨hk,rfl,hsc⟩ l2)
   exact⟨m,m1.trans (l1.append_right _),m2⟩
  have nd1:(ks++[k]).Nodup:=by
   rw [Ij]
   exact⟨S.nd,by simp,fun y hy z hz e=>hin (by rw [GR] at hz;rw [<-hz,<-e];exact hy)⟩
  have few2:es1.size<scanBound:=by rw [<-Hw,p1.length_eq,GW,Hw];simpa using few1
  have gw:∀(b:Bool) (s₁ : Shared) (Q':Unit->Shared->Prop),Q' () s₁->wpAny (model prog w) A (match b with | true=>rule "set.scan.the-table-gave-way" | false=>pure ()) Q' E s₁:=fun b s₁ Q' hq=>by
   cases b
   ·exact Jy hq
   ·exact JF hq
  refine Jx (gw _ _ _ ?_)
  by_cases hp:t1.plain=true
  ·rw [if_pos hp]
   refine Jx ?_
   rw [hashByValue_scannable 8 hsc]
   refine Jy ?_
   by_cases hv:plainKind x=true
   ·rw [if_pos hv]
    exact oH gw S hE nd1 few2 p2 p3.2 p3.1 fun h' b Sk=>Jy (q h' b Sk)
   ·rw [if_neg hv]
    exact oH gw S hE nd1 few2 (SetTable.fits_plain_off p2) p3.2 (fun z=>by cases z) fun h' b Sk=>Jy (q h' b Sk)
  ·rw [if_neg hp]
   refine Jx (Jy ?_)
   rw [if_pos rfl]
   exact oH gw S hE nd1 few2 p2 p3.2 p3.1 fun h' b Sk=>Jy (q h' b Sk)
theorem mr {led:Bool} (hl:led = !(w.params.followText "set-order")) (at_:h.get? a=some { cls:=.type "set",dict:=none,data:=.set #[] 0 (.fresh 0 0 led) }):eE knd h a [] :=
 ⟨_,#[],0,_,at_,⟨rfl,rfl,rfl⟩,rfl,⟨[],.refl _,.nil⟩,Iy,by decide,by rfl,hl,fun _=>Up.bB (Hg _)⟩
end
theorem kG {α : Type}:∀(l:List α) (i:Nat) (h:i<l.length),(l[i]::l.eraseIdx i).Perm l
 | x::l,0,_=>.refl _
 | x::l,i+1,h=>by
  have hi:i<l.length:=by simpa using h
  have ih:=kG l i hi
  show (l[i]::x::l.eraseIdx i).Perm (x::l)
  exact (List.Perm.swap x _ _).trans (ih.cons x)
theorem zg {α : Type}(f:Nat->Nat):∀(n k:Nat) (l:List α) (out:Array α),l.length=n->(pickOrder.go f n k l out).toList.Perm (out.toList++l):=by
 intro n
 induction n with
 | zero =>
  intro k l out hl
  have:l=[]:=List.length_eq_zero_iff.mp hl
  subst this
  unfold pickOrder.go
  simp
 | succ n ih =>
  intro k l out hl
  unfold pickOrder.go
  have hlt:f k % l.length<l.length:=Nat.mod_lt _ (by omega)
  rw [Js hlt]
  dsimp only
  refine (ih _ _ _ (by rw [List.length_eraseIdx_of_lt hlt];omega)).trans ?_
  rw [Array.toList_push,HB]
  refine List.Perm.append_left _ ?_
  exact kG _ _ hlt
theorem hX {α : Type}(f:Nat->Nat)(xs:Array α):(pickOrder f xs).toList.Perm xs.toList:=by
 unfold pickOrder
 have:=zg f xs.size 0 xs.toList #[] (by simp)
 simpa using this
section
variable {prog:Program}{w:World}{A:Around}{E:Value->Shared->Prop}{s:Shared}
theorem nz {Q:Bool->Shared->Prop} (q:Q (w.params.followText "set-order") s):wpAny (model prog w) A setsByText Q E s:=by
 unfold setsByText
 exact Jx (JZ (Jy q))
theorem C3 {src:Source}{n:Nat}{Q:Nat->Shared->Prop}(hn:n≠0)(q:∀(i:Nat) (d:_),i<n->Q i { s with drawn:=d }):wpAny (model prog w) A (choose src n) Q E s:=by
 intro Γ p hΓ
 show Sem.wp _ _ (.choose src n .pure) _ _ _ _
 rw [Sem.wp_choose]
 exact⟨hn,q _ _ (Nat.mod_lt _ (Nat.pos_of_ne_zero hn))⟩
theorem Fh:∀(n:Nat) (xs:List Nat) (s:Shared) {Q:List Nat->Shared->Prop},xs.length=n->(∀(ys:List Nat) (d:_),ys.Perm xs->Q ys { s with drawn:=d })->wpAny (model prog w) A (drawOrder n xs) Q E s:=by
 intro n
 induction n with
 | zero =>
  intro xs s Q hl q
  have:xs=[]:=List.length_eq_zero_iff.mp hl
  subst this
  unfold drawOrder
  exact Jy (q [] s.drawn (.refl _))
 | succ n ih =>
  intro xs s Q hl q
  cases xs with
  | nil=>cases hl
  | cons x0 xs =>
   unfold drawOrder
   refine Jx (C3 (by simp) fun i d hi=>?_)
   rw [Js hi]
   dsimp only
   refine Jx (ih _ _ (by rw [List.length_eraseIdx_of_lt hi];omega) fun ys d' hp=>?_)
   refine Jy (q _ d' ?_)
   exact (hp.cons _).trans (kG _ _ hi)
end
section
variable {prog:Program}{w:World}{K:Type}[DecidableEq K]{knd:KeyKind prog w K}
variable {A:Around}{E:Value->Shared->Prop}{s:Shared}{a:Addr}{ks:List K}{o:Obj}{es:Array (Int×Value)}{ep:Nat}{t:SetTable}
theorem zh {slot i:Nat} {Q:Option (Value×Nat)->Shared->Prop} (S:dG knd s.heap a ks o es ep t) (hb:w.params.followText "set-order" = true)
  (q:Q (((pickOrder (w.params.setOrder a ep) es)[i]?).map fun e=>(e.2,slot)) s):wpAny (model prog w) A (setNext a slot i ep) Q E s:=by
 unfold setNext
 refine Jx (JT S.at_ S.data S.fits ?_)
 dsimp only
 refine Jx (nz ?_)
 rw [hb,if_pos rfl]
 rw [if_neg (by simp)]
 unfold setWalk
 refine Jx (Jx (JT S.at_ S.data S.fits ?_))
 dsimp only
 refine Jx (nz ?_)
 rw [hb,if_pos rfl]
 exact Jx (JZ (Jy (Jy q)))
theorem zj {slot i:Nat} {Q:Option (Value×Nat)->Shared->Prop} (S:dG knd s.heap a ks o es ep t) (hb:w.params.followText "set-order" = false) (hd:t.plain=true\/es.size<=1) (hs:SetTable.below t.place slot=i)
  (q:Q (match es[i]?,t.place[i]? with | some (_,x),some j=>some (x,j+1) | _,_=>none) s):wpAny (model prog w) A (setNext a slot i ep) Q E s:=by
 unfold setNext
 refine Jx (JT S.at_ S.data S.fits ?_)
 dsimp only
 refine Jx (nz ?_)
 rw [hb,if_neg He]
 refine J0 (fun h=>absurd (show (!t.plain&&decide (es.size > 1))=true from h) ?_) (fun _=>?_)
 ·rcases hd with h | h
  ·rw [h];simp
  ·rw [show decide (es.size > 1)=false by simp;omega];simp
 have hl:t.led=true:=by rw [S.led,hb];rfl
 refine Jx ?_
 show wpAny _ _ (if (!t.led&&!es.isEmpty)=true then unsupported "set:maker-not-led" else pure ()) _ _ s
 rw [hl,if_neg (by simp)]
 refine Jy ?_
 rw [hs]
 exact Jy q
theorem Ey {i:Nat}{e:Int×Value}{Q:Value->Shared->Prop}(S:dG knd s.heap a ks o es ep t)(he:es[i]?=some e)(q:Q e.2 s):wpAny (model prog w) A (setNextDrawn a i ep) Q E s:=by
 unfold setNextDrawn
 refine Jx (JT S.at_ S.data S.fits ?_)
 dsimp only
 rw [if_neg (by simp)]
 rw [he]
 exact Jy q
theorem slot_next:Slot "set_iterator" "__next__" "set_iterator.__next__" :=
  Slot.of (owner := "set_iterator") (n := "__next__")
    (by rw [typeLookup_type,builtinLookup_eq_fast]
        kernel_rfl)
    (by decide +kernel)
    (by decide +kernel)
    (by decide +kernel)
    (by first
      | exact .inl (by decide +kernel)
      | exact .inr (by decide +kernel))
    (by rw [isSubtype_type]
        kernel_rfl)
theorem entry_next:entryFor table "set_iterator.__next__" = some Builtin.«set_iterator.__next__» :=
 entryFor_of_tree (by kernel_rfl)
theorem sD:Manifest.owners.lookup (String.ofList ['r','o','t','a','r','e','t','i','_','t','e','s'].reverse)=some Manifest.sig_set_iterator:=by
 kernel_rfl
theorem args_next (v:Value):argsOk "set_iterator.__next__" ⟨[v],[]⟩:=by
 unfold argsOk
 rw [signature?_of (id := "set_iterator.__next__") (n:=['_','_','t','x','e','n','_','_']) (o:=['r','o','t','a','r','e','t','i','_','t','e','s'])
  (by kernel_rfl) sD]
 kernel_rfl
end
def fm (h:Heap)(I:Addr)(first:Value)(i:Nat)(a:Addr)(n ep:Nat):Prop :=
 ∃oI,h.get? I=some oI/\oI.cls=.type "set_iterator" /\ oI.data=.fields #[first,.int i 0,.ref a,.int n 0,.int ep 0]
theorem fm.type {s:Shared} {I:Addr} {first:Value} {i:Nat} {a:Addr} {n ep:Nat} (h:fm s.heap I first i a n ep):s.TypeIs (.ref I) "set_iterator" := let ⟨o,e,c,_⟩:=h;⟨o,e,c⟩
theorem fm.keep {h h':Heap}{I:Addr}{first:Value}{i:Nat}{a:Addr}{n ep:Nat}(x:fm h I first i a n ep)(k:∀o,h.get? I=some o->h'.get? I=some o):fm h' I first i a n ep :=
 let ⟨o,e,c⟩:=x;⟨o,k _ e,c⟩
section
variable {prog:Program}{w:World}{K:Type}[DecidableEq K]{knd:KeyKind prog w K}
variable {A:Around}{E:Value->Shared->Prop}{s:Shared}{a I:Addr}{ks:List K}{o:Obj}{es:Array (Int×Value)}{ep:Nat}{t:SetTable}
theorem uK {slot nx i:Nat}{x:Value}{Q:Option Value->Shared->Prop}(hit:fm s.heap I (.int slot 0) i a es.size ep)(S:dG knd s.heap a ks o es ep t)
  (hn:∀(A:Around) (E:Value->Shared->Prop) (Q:Option (Value×Nat)->Shared->Prop),Q (some (x,nx)) s->wpAny (model prog w) A (setNext a slot i ep) Q E s)
  (q:∀h',fm h' I (.int nx 0) (i+1) a es.size ep->Hk I s.heap h'->Q (some x) { s with heap:=h' }):wpAny (model prog w) A (pyNext (.ref I)) Q E s:=by
 obtain⟨oI,ho,hc,hd⟩:=id hit
 unfold pyNext
 refine Jx (JI (wpAny_callSpecial?_slot (name:=Str.ofString "__next__") hit.type slot_next (JC slot_next hit.type entry_next ?_ (args_next _))))
 unfold Builtin.«set_iterator.__next__»
 refine Jx (Jy ?_)
 refine Jx (J1 ho hd ?_)
 dsimp only
 refine Jx (JV S.at_ S.data S.fits ?_)
 rw [if_neg (by simp)]
 simp only [HZ]
 refine Jx (hn _ _ _ ?_)
 dsimp only
 refine Jx (JL ho hd (by simp) ?_)
 have d1:(Obj.mapFields (·.setIfInBounds 0 (rawInt (nx:Int))) oI).data=.fields #[.int nx 0,.int i 0,.ref a,.int es.size 0,.int ep 0]:=by rw [Obj.data_mapFields hd];simp [rawInt]
 have g1:=HJ (Obj.mapFields (·.setIfInBounds 0 (rawInt (nx:Int)))) ho (Obj.isFreed_of_fields (Obj.data_mapFields hd _))
 refine Jx (JL g1 d1 (by simp) ?_)
 refine Jy ⟨_,rfl,Jy (q _ ⟨_,HJ _ g1 (Obj.isFreed_of_fields (Obj.data_mapFields d1 _)),?_,?_⟩ ((Hk.update ..).trans (Hk.update ..)))⟩
 ·exact (Obj.cls_mapFields ..).trans ((Obj.cls_mapFields ..).trans hc)
 ·rw [Obj.data_mapFields d1];simp [rawInt]
theorem nX {Q:Option Value->Shared->Prop}{s0:Shared}(hh:A.handled=none)(hk:∀b o,b≠I->s0.heap.get? b=some o->s.heap.get? b=some o)
  (q:∀h',(∀b o,b≠I->s0.heap.get? b=some o->h'.get? b=some o)->Q none { s with heap:=h' }) :
  wpAny (model prog w) A.in1 (newExc (.type "StopIteration") [] >>= fun e=>(raiseNew e:Sem Fin)) (fun _ _=>False)
   (fun e s'=>wpAny (model prog w) A (isInstance e (.type "StopIteration") >>= fun b=>if b=true then pure none else throw e) Q E s') s:=by
 refine Jx ?_
 simp only [newExc,newTuple]
 refine Jx (JE ?_ (by size_fits))
 refine Jx (m:=firstArgMember _ _) (wpAny_of_eq (a:=Value.none) (by first | rfl | (simp only [firstArgMember];rfl)) ?_)
 refine JE ?_ (by size_fits)
 simp only [raiseNew]
 refine Jx (wpAny_handled ?_)
 rw [show A.in1.handled=none from hh]
 refine Jx (Jy (wpAny_throw ?_))
 refine Jx (JS (T := "StopIteration") (b:=true) ⟨_,GX _ rfl,rfl⟩ isSubtype_stop ?_)
 exact Jy (q _ fun b o hb e=>GV _ (GV _ (hk b o hb e)))
theorem wN {slot i:Nat}{Q:Option Value->Shared->Prop}(hh:A.handled=none)(hit:fm s.heap I (.int slot 0) i a es.size ep)(S:dG knd s.heap a ks o es ep t)
  (hn:∀(A:Around) (E:Value->Shared->Prop) (Q:Option (Value×Nat)->Shared->Prop),Q none s->wpAny (model prog w) A (setNext a slot i ep) Q E s)
  (q:∀h',(∀b o,b≠I->s.heap.get? b=some o->h'.get? b=some o)->Q none { s with heap:=h' }):wpAny (model prog w) A (pyNext (.ref I)) Q E s:=by
 obtain⟨oI,ho,hc,hd⟩:=id hit
 unfold pyNext
 refine Jx (JI (wpAny_callSpecial?_slot (name:=Str.ofString "__next__") hit.type slot_next (JC slot_next hit.type entry_next ?_ (args_next _))))
 unfold Builtin.«set_iterator.__next__»
 refine Jx (Jy ?_)
 refine Jx (J1 ho hd ?_)
 dsimp only
 refine Jx (JV S.at_ S.data S.fits ?_)
 rw [if_neg (by simp)]
 simp only [HZ]
 refine Jx (hn _ _ _ ?_)
 dsimp only
 refine Jx (JL ho hd (by simp) ?_)
 refine Jz (nX (I:=I) (s0:=s) (E:=E) (Q:=Q) hh (fun b o hb e=>(HR _ _ (Ne.symm hb)).trans e) fun h' k=>q h' k) (fun _ _ z=>z.elim) fun e s' z=>z
theorem AZ {T:Addr}{i k:Nat}{oT:Obj}{its:Array Value}{c:Nat}{x:Int×Value}{Q:Option Value->Shared->Prop}(hit:fm s.heap I (.ref T) i a es.size ep)(S:dG knd s.heap a ks o es ep t)
  (hT:s.heap.get? T=some oT) (dT:oT.data=.seq its c) (hk:its[i]?=some (.int k 0)) (hx:es[k]?=some x)
  (q:∀h',fm h' I (.ref T) (i+1) a es.size ep->Hk I s.heap h'->Q (some x.2) { s with heap:=h' }):wpAny (model prog w) A (pyNext (.ref I)) Q E s:=by
 obtain⟨oI,ho,hc,hd⟩:=id hit
 unfold pyNext
 refine Jx (JI (wpAny_callSpecial?_slot (name:=Str.ofString "__next__") hit.type slot_next (JC slot_next hit.type entry_next ?_ (args_next _))))
 unfold Builtin.«set_iterator.__next__»
 refine Jx (Jy ?_)
 refine Jx (J1 ho hd ?_)
 dsimp only
 refine Jx (JV S.at_ S.data S.fits ?_)
 rw [if_neg (by simp)]
 refine Jx (JD hT dT ?_)
 dsimp only
 simp only [HZ]
 rw [hk]
 dsimp only
 simp only [HZ]
 refine Jx (Ey S hx ?_)
 refine Jx (JL ho hd (by simp) ?_)
 refine Jy ⟨_,rfl,Jy (q _ ⟨_,HJ _ ho (Obj.isFreed_of_fields (Obj.data_mapFields hd _)),?_,?_⟩ (Hk.update ..))⟩
 ·exact (Obj.cls_mapFields ..).trans hc
 ·rw [Obj.data_mapFields hd];simp [rawInt]
theorem C4 {T:Addr}{i:Nat}{oT:Obj}{its:Array Value}{c:Nat}{Q:Option Value->Shared->Prop}(hh:A.handled=none)(hit:fm s.heap I (.ref T) i a es.size ep)(S:dG knd s.heap a ks o es ep t)
  (hT:s.heap.get? T=some oT) (dT:oT.data=.seq its c) (hk:its[i]?=none)
  (q:∀h',(∀b o,b≠I->s.heap.get? b=some o->h'.get? b=some o)->Q none { s with heap:=h' }):wpAny (model prog w) A (pyNext (.ref I)) Q E s:=by
 obtain⟨oI,ho,hc,hd⟩:=id hit
 unfold pyNext
 refine Jx (JI (wpAny_callSpecial?_slot (name:=Str.ofString "__next__") hit.type slot_next (JC slot_next hit.type entry_next ?_ (args_next _))))
 unfold Builtin.«set_iterator.__next__»
 refine Jx (Jy ?_)
 refine Jx (J1 ho hd ?_)
 dsimp only
 refine Jx (JV S.at_ S.data S.fits ?_)
 rw [if_neg (by simp)]
 refine Jx (JD hT dT ?_)
 dsimp only
 simp only [HZ]
 rw [hk]
 dsimp only
 refine Jx (JL ho hd (by simp) ?_)
 have d1:(Obj.mapFields (·.setIfInBounds 0 (rawInt 0)) oI).data=.fields #[.int 0 0,.int i 0,.ref a,.int es.size 0,.int ep 0]:=by rw [Obj.data_mapFields hd];simp [rawInt]
 have g1:=HJ (Obj.mapFields (·.setIfInBounds 0 (rawInt 0))) ho (Obj.isFreed_of_fields (Obj.data_mapFields hd _))
 refine Jx (JL g1 d1 (by simp) ?_)
 refine Jz (nX (I:=I) (s0:=s) (E:=E) (Q:=Q) hh (fun b o hb e=>(HR _ _ (Ne.symm hb)).trans ((HR _ _ (Ne.symm hb)).trans e)) fun h' k=>q h' k) (fun _ _ z=>z.elim) fun e s' z=>z
theorem pN:Slot "set_iterator" "__iter__" "set_iterator.__iter__" :=
  Slot.of (owner := "set_iterator") (n := "__iter__")
    (by rw [typeLookup_type,builtinLookup_eq_fast]
        kernel_rfl)
    (by decide +kernel)
    (by decide +kernel)
    (by decide +kernel)
    (by first
      | exact .inl (by decide +kernel)
      | exact .inr (by decide +kernel))
    (by rw [isSubtype_type]
        kernel_rfl)
theorem vF:entryFor table "set_iterator.__iter__" = some Builtin.«dict_keyiterator.__iter__» :=
 entryFor_alias (id' := "dict_keyiterator.__iter__")
  (by kernel_rfl) rfl
  (by decide +kernel)
  (by kernel_rfl)
theorem xV (v:Value):argsOk "set_iterator.__iter__" ⟨[v],[]⟩:=by
 unfold argsOk
 rw [signature?_of (id := "set_iterator.__iter__") (n:=['_','_','r','e','t','i','_','_']) (o:=['r','o','t','a','r','e','t','i','_','t','e','s'])
  (by kernel_rfl) sD]
 kernel_rfl
theorem mw {first:Value}{i:Nat}{Q:Value->Shared->Prop}{n:Nat}(hit:fm s.heap I first i a n ep)(q:Q (.ref I) s):wpAny (model prog w) A (pyIter (.ref I)) Q E s:=by
 refine wpAny_pyIter_slot hit.type pN (JC pN hit.type vF ?_ (xV _))
 show wpAny _ _ (ret (.ref I)) _ _ s
 exact Jy ⟨_,rfl, "set_iterator",_,hit.type,slot_next.lookup,q⟩
theorem Ez (hh:A.handled=none) (hI:a≠I) (hb:w.params.followText "set-order" = true) (nd:True) :
  Walks prog w A I [I,a] [I] es.size (fun i v=>∃e,(pickOrder (w.params.setOrder a ep) es)[i]?=some e/\e.2=v) (fun i h=>fm h I (.int 0 0) i a es.size ep/\dG knd h a ks o es ep t) where
 sub:=fun b hb=>by simp at hb;simp [hb]
 frame:=fun _ _ _ st k=>⟨st.1.keep fun o e=>k I (by simp) o e,st.2.keep fun o e=>k a (by simp) o e⟩
 item:=fun i s Q E hi st q=>by
  have z:(pickOrder (w.params.setOrder a ep) es).size=es.size:=by have:=(hX (w.params.setOrder a ep) es).length_eq;simpa using this
  have g:(pickOrder (w.params.setOrder a ep) es)[i]?=some ((pickOrder (w.params.setOrder a ep) es)[i]'(by omega)):=by simp
  refine uK (slot:=0) (nx:=0) st.1 st.2 (fun A E Q h=>zh st.2 hb (by rw [g];exact h)) fun h' hit' sb=>?_
  exact q _ h' s.toks ⟨_,g,rfl⟩ ⟨hit',st.2.keep fun o e=>sb.extBut a o hI e⟩ fun b o hb e=>sb.extBut b o (fun z=>hb (by simp [z])) e
 done:=fun s Q E st q=>by
  have z:(pickOrder (w.params.setOrder a ep) es).size=es.size:=by have:=(hX (w.params.setOrder a ep) es).length_eq;simpa using this
  refine wN (slot:=0) hh st.1 st.2 (fun A E Q h=>zh st.2 hb (by rw [Array.getElem?_eq_none (by omega)];exact h)) fun h' k=>?_
  exact q h' s.toks fun b o hb e=>k b o (fun z=>hb (by simp [z])) e
 self:=fun _ _ _ _ st q=>mw st.1 q
theorem oJ {α : Type}{es:Array α}:∀{ys:List Nat},(∀k∈ys,k<es.size)->∀i:Nat,(ys.filterMap fun k=>es[k]?)[i]?=(ys[i]?).bind fun k=>es[k]?
 | [],_,i=>by simp
 | y::ys,h,i=>by
  have hy:es[y]?=some (es[y]'(h y (GZ ..))):=by simp
  rw [IB,hy]
  cases i with
  | zero=>simp
  | succ i =>
   have:=oJ (ys:=ys) (fun k hk=>h k (G1 _ hk)) i
   simpa using this
def pO (t:SetTable):Nat->Nat
 | 0=>0
 | i+1=>t.place.getD i 0+1
theorem pP {t:SetTable}(up:Up t.place){i:Nat}(h:i<=t.place.size):SetTable.below t.place (pO t i)=i:=by
 cases i with
 | zero=>exact xT up
 | succ i =>
  have hi:i<t.place.size:=by omega
  have e:t.place[i]?=some (t.place.getD i 0):=by simp [Array.getD,hi]
  exact xS up e
theorem EA (hh:A.handled=none) (hI:a≠I) (hb:w.params.followText "set-order" = false) (hd:t.plain=true\/es.size<=1) (hf:t.fits es.size=true) (hr:Rp t) :
  Walks prog w A I [I,a] [I] es.size (fun i v=>∃e,es[i]?=some e/\e.2=v) (fun i h=>fm h I (.int (pO t i) 0) i a es.size ep/\dG knd h a ks o es ep t) where
 sub:=fun b hb=>by simp at hb;simp [hb]
 frame:=fun _ _ _ st k=>⟨st.1.keep fun o e=>k I (by simp) o e,st.2.keep fun o e=>k a (by simp) o e⟩
 item:=fun i s Q E hi st q=>by
  have z:t.place.size=es.size:=by simp only [SetTable.fits,Hb,beq_iff_eq] at hf;exact hf.1
  have up:Up t.place:=by
   rcases hd with c | c
   ·exact hr c
   ·exact Up.bB (by omega)
  have g:es[i]?=some es[i]:=by simp [hi]
  have gp:t.place[i]?=some (t.place.getD i 0):=by simp [Array.getD,z,hi]
  refine uK (slot:=pO t i) (nx:=pO t (i+1)) (x:=es[i].2) st.1 st.2 (fun A E Q h=>zj st.2 hb hd (pP up (by omega)) (by rw [g,gp];exact h)) fun h' hit' sb=>?_
  exact q _ h' s.toks ⟨_,g,rfl⟩ ⟨hit',st.2.keep fun o e=>sb.extBut a o hI e⟩ fun b o hb e=>sb.extBut b o (fun z=>hb (by simp [z])) e
 done:=fun s Q E st q=>by
  have z:t.place.size=es.size:=by simp only [SetTable.fits,Hb,beq_iff_eq] at hf;exact hf.1
  have up:Up t.place:=by
   rcases hd with c | c
   ·exact hr c
   ·exact Up.bB (by omega)
  refine wN (slot:=pO t es.size) hh st.1 st.2 (fun A E Q h=>zj st.2 hb hd (pP up (by omega)) (by rw [Array.getElem?_eq_none (GQ _)];exact h)) fun h' k=>?_
  exact q h' s.toks fun b o hb e=>k b o (fun z=>hb (by simp [z])) e
 self:=fun _ _ _ _ st q=>mw st.1 q
theorem EB {T:Addr}{oT:Obj}{ys:List Nat}(hh:A.handled=none)(hI:a≠I)(hT:T≠I)(dT:oT.data=.seq (ys.map fun (i:Nat)=>rawInt i).toArray 0)(hp:ys.Perm (Hs es.size)) :
  Walks prog w A I [I,a,T] [I] es.size (fun i v=>∃e,((ys.filterMap fun k=>es[k]?))[i]?=some e/\e.2=v) (fun i h=>fm h I (.ref T) i a es.size ep/\dG knd h a ks o es ep t/\h.get? T=some oT) where
 sub:=fun b hb=>by simp at hb;simp [hb]
 frame:=fun _ _ _ st k=>⟨st.1.keep fun o e=>k I (by simp) o e,st.2.1.keep fun o e=>k a (by simp) o e,k T (by simp) _ st.2.2⟩
 item:=fun i s Q E hi st q=>by
  have hl:ys.length=es.size:=by rw [hp.length_eq,IL]
  have hin:∀k∈ys,k<es.size:=fun k hk=>Ig.mp (hp.mem_iff.mp hk)
  have h1:ys[i]?=some (ys[i]'(by omega)):=by simp
  have hk:ys[i]'(by omega)<es.size:=hin _ (HK _)
  generalize ys[i]'(by omega)=k at h1 hk
  have hx:es[k]?=some es[k]:=by simp [hk]
  have hv:(ys.filterMap fun k=>es[k]?)[i]?=some es[k]:=by
   rw [oJ hin,h1]
   exact hx
  refine AZ (k:=k) (x:=es[k]) st.1 st.2.1 st.2.2 dT (by simp [h1,rawInt]) hx fun h' hit' sb=>?_
  exact q _ h' s.toks ⟨_,hv,rfl⟩ ⟨hit',st.2.1.keep fun o e=>sb.extBut a o hI e,sb.extBut T _ hT st.2.2⟩ fun b o hb e=>sb.extBut b o (fun z=>hb (by simp [z])) e
 done:=fun s Q E st q=>by
  have hl:ys.length=es.size:=by rw [hp.length_eq,IL]
  refine C4 hh st.1 st.2.1 st.2.2 dT (by simp [hl]) fun h' k=>?_
  exact q h' s.toks fun b o hb e=>k b o (fun z=>hb (by simp [z])) e
 self:=fun _ _ _ _ st q=>mw st.1 q
theorem mx {b x y:Addr}(h:b∈[x,y]):b=x\/b=y:=by simpa using h
theorem A5 {b x y z:Addr}(h:b∈[x,y,z]):b=x\/b=y\/b=z:=by simpa using h
theorem xW:entryFor table "set.__iter__" = some Builtin.«frozenset.__iter__» :=
 entryFor_alias (id' := "frozenset.__iter__")
  (by kernel_rfl) rfl
  (by decide +kernel)
  (by kernel_rfl)
theorem dG.typeIs (S:dG knd s.heap a ks o es ep t):s.TypeIs (.ref a) "set" := ⟨o,S.at_,S.ex.1⟩
theorem vG {Q:Bool->Shared->Prop} (S:dG knd s.heap a ks o es ep t) (q:Q (!(w.params.followText "set-order")&&(!t.plain&&decide (es.size > 1))) s):wpAny (model prog w) A (setDrawn a) Q E s:=by
 unfold setDrawn
 refine Jx (JT S.at_ S.data S.fits ?_)
 dsimp only
 exact Jx (nz (Jy q))
def Comes (es:Array (Int×Value))(P:Nat->Value->Prop):Prop:=∃l:List (Int×Value),l.Perm es.toList/\P=fun i v=>∃e,l[i]?=some e/\e.2=v
theorem Ba {Q:Value->Shared->Prop}(hh:A.handled=none)(S:dG knd s.heap a ks o es ep t)
  (q:∀(I:Addr) (h':Heap) (d:_) (fp:List Addr) (P:Nat->Value->Prop) (St:Nat->Heap->Prop),(∀b o,s.heap.get? b=some o->h'.get? b=some o)->s.heap.objs.size<=I->(∀b∈fp,b<h'.objs.size)->(∀b,h'.objs.size<=b->b∉fp) ->
   (∀b∈fp,b=a\/s.heap.objs.size<=b)->Comes es P->(∀A:Around,A.handled=none->Walks prog w A I fp [I] es.size P St)->St 0 h'->Q (.ref I) { s with heap:=h',drawn:=d }) :
  wpAny (model prog w) A (pyIter (.ref a)) Q E s:=by
 have la:a<s.heap.objs.size:=GU S.at_
 refine wpAny_pyIter_slot S.typeIs PySem.F.slot_set_iter (JC PySem.F.slot_set_iter S.typeIs xW ?_ (PySem.F.args_set_iter_1 _))
 unfold Builtin.«frozenset.__iter__»
 refine Jx ?_
 unfold Builtin.Frozenset.slot0
 refine Jx (Jy ?_)
 refine Jy ?_
 refine Jx ?_
 unfold Builtin.Frozenset.sizeOf
 refine Jx (JV S.at_ S.data S.fits (Jy ?_))
 refine Jx (vG S ?_)
 cases hb:w.params.followText "set-order" with
 | true =>
  rw [Bool.not_true,IS,if_neg He]
  refine Jx (Jy ?_)
  refine Jx (J6 S.at_ S.data S.fits ?_)
  refine Jx ?_
  simp only [newFields]
  refine JE (Jy ⟨_,rfl, "set_iterator",_,⟨_,GX _ rfl,rfl⟩,slot_next.lookup,?_⟩) (by size_fits)
  refine q _ _ s.drawn [s.heap.objs.size,a] _ _ (fun b o e=>GV _ e) (GQ _) (fun b hb=>?_) (fun b hb hm=>?_) (fun b hb=>?_) ⟨_,hX (w.params.setOrder a ep) es,?_⟩ (fun A hh=>Ez (knd:=knd) (ks:=ks) (o:=o) (t:=t) hh (G0 la) hb trivial) ⟨⟨_,GX _ rfl,rfl,rfl⟩,S.keep fun o e=>GV _ e⟩
  ·rw [Hc]
   rcases mx hb with e | e
   ·rw [e];exact HG _
   ·rw [e];exact Hy la
  ·rw [Hc] at hb
   rcases mx hm with e | e
   ·rw [e] at hb;exact Jg _ hb
   ·rw [e] at hb;exact Hf _ (Hj la (IM hb))
  ·rcases mx hb with e | e
   ·exact .inr (by rw [e];exact GQ _)
   ·exact .inl e
  ·funext i v;simp
 | false =>
  rw [Bool.not_false,Ik]
  by_cases hd:(!t.plain&&decide (es.size > 1))=true
  ·rw [hd,if_pos rfl]
   refine Jx (Fh es.size (Hs es.size) s (by simp) fun ys d hp=>?_)
   have hz:(ys.map fun (i:Nat)=>rawInt i).length<=sizeLine:=by rw [GO,hp.length_eq,IL];exact fits_of_scanBound S.bB
   refine Jx (wpAny_newTuple ?_ hz)
   have S1:dG knd (s.heap.push { cls:=.type "tuple",data:=.seq (ys.map fun (i:Nat)=>rawInt i).toArray }) a ks o es ep t:=S.keep fun o e=>GV _ e
   refine Jx (J6 S1.at_ S1.data S1.fits ?_)
   refine Jx ?_
   simp only [newFields]
   refine JE (Jy ⟨_,rfl, "set_iterator",_,⟨_,GX _ rfl,rfl⟩,slot_next.lookup,?_⟩) (by size_fits)
   refine q _ _ d [(s.heap.push { cls:=.type "tuple",data:=.seq (ys.map fun (i:Nat)=>rawInt i).toArray }).objs.size,a,s.heap.objs.size] _ _ (fun b o e=>GV _ (GV _ e)) (by rw [Hc];exact HP _) (fun b hb=>?_) (fun b hb hm=>?_) (fun b hb=>?_) ⟨ys.filterMap fun k=>es[k]?,?_,rfl⟩
    (fun A hh=>EB (knd:=knd) (ks:=ks) (o:=o) (t:=t) (oT:={ cls:=.type "tuple",data:=.seq (ys.map fun (i:Nat)=>rawInt i).toArray }) hh (by rw [Hc];exact G0 (Hy la)) (by rw [Hc];exact G0 (HG _)) rfl hp) ⟨⟨_,GX _ rfl,rfl,rfl⟩,S1.keep fun o e=>GV _ e,GV _ (GX _ rfl)⟩
   ·rw [Hc,Hc]
    rcases A5 hb with e | e | e
    ·rw [e,Hc];exact HG _
    ·rw [e];exact Hy (Hy la)
    ·rw [e];exact Hy (HG _)
   ·rw [Hc,Hc] at hb
    rcases A5 hm with e | e | e
    ·rw [e,Hc] at hb;exact Jg _ hb
    ·rw [e] at hb;exact Hf _ (Hj la (IM (IM hb)))
    ·rw [e] at hb;exact Jg _ (IM hb)
   ·rcases A5 hb with e | e | e
    ·exact .inr (by rw [e,Hc];exact HP _)
    ·exact .inl e
    ·exact .inr (by rw [e];exact GQ _)
   ·refine (hp.filterMap _).trans ?_
    have:((Hs es.size).filterMap fun k=>es[k]?)=es.toList:=by
     refine List.ext_getElem? fun i=>?_
     rw [oJ (fun k hk=>Ig.mp hk)]
     by_cases hi:i<es.size
     ·rw [List.getElem?_range hi];simp
     ·rw [Iz (by simp;omega),Iz (by simp;omega)];rfl
    rw [this]
  ·rw [if_neg hd]
   refine Jx (Jy ?_)
   refine Jx (J6 S.at_ S.data S.fits ?_)
   refine Jx ?_
   simp only [newFields]
   refine JE (Jy ⟨_,rfl, "set_iterator",_,⟨_,GX _ rfl,rfl⟩,slot_next.lookup,?_⟩) (by size_fits)
   have hd':t.plain=true\/es.size<=1:=by
    cases hp:t.plain with
    | true=>exact .inl rfl
    | false=>right;rw [hp] at hd;simp at hd;exact hd
   refine q _ _ s.drawn [s.heap.objs.size,a] _ _ (fun b o e=>GV _ e) (GQ _) (fun b hb=>?_) (fun b hb hm=>?_) (fun b hb=>?_) ⟨es.toList,.refl _,?_⟩ (fun A hh=>EA (knd:=knd) (ks:=ks) (o:=o) (t:=t) hh (G0 la) hb hd' S.fits S.up) ⟨⟨_,GX _ rfl,rfl,rfl⟩,S.keep fun o e=>GV _ e⟩
   ·rw [Hc]
    rcases mx hb with e | e
    ·rw [e];exact HG _
    ·rw [e];exact Hy la
   ·rw [Hc] at hb
    rcases mx hm with e | e
    ·rw [e] at hb;exact Jg _ hb
    ·rw [e] at hb;exact Hf _ (Hj la (IM hb))
   ·rcases mx hb with e | e
    ·exact .inr (by rw [e];exact GQ _)
    ·exact .inl e
   ·funext i v;simp
theorem Bb {Q:Bool->Shared->Prop} (hT:s.TypeIs (.ref a) "set") (q:Q false s):wpAny (model prog w) A (Builtin.List.listLengthHint (.ref a)) Q E s:=by
 unfold Builtin.List.listLengthHint
 refine Jx (wpAny_specialOf hT PySem.F.slot_set_len.lookup ?_)
 generalize hid:("set.__len__" : String)=id0
 wp_delta
 rw [show splitId id0=some ("set", "__len__") from by subst hid;decide +kernel]
 subst hid
 refine Jx (JS (T := "set") (b:=true) hT sub_set_self ?_)
 refine J0 (fun hab=>absurd hab (by decide)) (fun _=>?_)
 refine J0 (fun _=>?_) (fun hab=>absurd (by decide +kernel) hab)
 refine Jx (JP hT ?_)
 exact Jy q
end
open PySem.Calls PySem.W
section
variable {prog:Program}{w:World}{K:Type}[DecidableEq K]{knd:KeyKind prog w K}
variable {A:Around}{E:Value->Shared->Prop}{s:Shared}{a:Addr}{ks:List K}{o:Obj}{es:Array (Int×Value)}{ep:Nat}{t:SetTable}
theorem vH {P:Nat->Value->Prop}{got:Array Value}(hc:Comes es P)(hi:ItemsOf P got es.size):∃l:List (Int×Value),l.Perm es.toList/\got.toList=l.map (·.2):=by
 obtain⟨l,hp,rfl⟩:=hc
 refine⟨l,hp,?_⟩
 have hl:l.length=es.size:=by rw [hp.length_eq,Hw]
 refine List.ext_getElem? fun i=>?_
 rw [G8]
 by_cases h:i<es.size
 ·have e1:got.toList[i]?=some (got[i]'(by rw [hi.1];exact h)):=by simp [hi.1,h]
  obtain⟨e,he,hv⟩:=hi.2 i _ (by rw [<-IH];exact e1)
  rw [e1,he,<-hv];rfl
 ·rw [Iz (by rw [Hw,hi.1];omega),Iz (by omega)];rfl
theorem xX {R:Result->Shared->Prop}(hh:A.handled=none)(S:dG knd s.heap a ks o es ep t)(L:Addr)(hLa:L≠a)(hL:s.heap.get? L=some { cls:=.type "list",data:=.seq #[] 0 })(res:Value)
  (fin:∀(g:Heap) (tk:Nat) (d:_) (got:Array Value) (c:Nat),(∀b o,b≠L->s.heap.get? b=some o->g.get? b=some o)->g.get? L=some { cls:=.type "list",dict:=none,data:=.seq got c,slots:=#[] } ->
   (∃l:List (Int×Value),l.Perm es.toList/\got.toList=l.map (·.2))->R (.ok (.ret res)) { s with heap:=g,toks:=tk,drawn:=d }) :
  wpAny (model prog w) A.in1 (Builtin.List.listExtendWith (.ref L) (.ref a) res)
   (fun fin s'=>match fin with | .done f=>R (.ok f) s' | .again c'=>c'.quiet=true/\codeAny (model prog w) A c' R s') (fun e s'=>R (.error e) s') s:=by
 have hz:es.size<=sizeLine:=fits_of_scanBound S.bB
 unfold Builtin.List.listExtendWith
 refine Jx (JP S.typeIs ?_)
 have h1:Builtin.List.listSameRef (.ref L) (.ref a)=false:=by simp [Builtin.List.listSameRef,hLa]
 rw [h1]
 have h2:(Value.type "set" == Value.type "list")=false:=by decide
 have h3:(Value.type "set" == Value.type "tuple")=false:=by decide
 rw [h2,h3]
 rw [if_neg (by decide)]
 refine Jx (Ba (A:=A.in1) hh S fun I h1 d fp P St keep hI hfp hnew hof hc W st=>?_)
 have hLlt:L<s.heap.objs.size:=GU hL
 have hLf:L∉fp:=fun hm=>by
  rcases hof L hm with e | e
  ·exact hLa e
  ·exact Hf _ (Hj hLlt e)
 have hLI:L≠I:=fun e=>Hf _ (Hj hLlt (e ▸ hI))
 have Wk:=W A.in1 hh
 have loop:∀(g:Heap) (c tk:Nat),St 0 g->(∀b o,b≠L->s.heap.get? b=some o->g.get? b=some o)->g.get? L=some { cls:=.type "list",data:=.seq #[] c } ->
   codeAny (model prog w) A (.builtin "list.extend.loop" ⟨[.ref L,.ref I,res],[]⟩) R { s with heap:=g,toks:=tk,drawn:=d }:=by
  intro g c tk st' kp gL
  refine codeAny_extend_loopS Wk.toS hz L hLf res es.size 0 _ #[] c rfl (Hg _) st' gL (ItemsOf.nil _) fun s' got c' mv gL' its=>?_
  have e:=Moved.eq_with mv
  rw [e]
  refine fin s'.heap s'.toks d got c' (fun b o hb e=>mv.heap b o (fun hm=>?_) (kp b o hb e)) gL' (vH hc its)
  rcases GS.mp hm with e' | hm
  ·exact hb e'
  ·rw [GR] at hm
   subst hm
   exact Hf _ (Hj (GU e) hI)
 have gL1:=keep _ _ hL
 refine Jx (JB (Bb ⟨o,keep _ _ S.at_,S.ex.1⟩ ?_))
 refine J0 (fun _=>?_) (fun _=>Jy ⟨plainId_quiet PySem.F.plain_extend_loop _,loop _ 0 _ st (fun b o _ e=>keep b o e) gL1⟩)
 refine Jx (JF ?_)
 refine Jx ?_
 show wpAny _ _ (updateSeq L (·.push .none) >>= fun _=>updateSeq L (·.pop)) _ _ _
 refine Jx (wpAny_updateSeq gL1 rfl ?_)
 have gL2:=HJ (Obj.mapSeq (·.push Value.none)) gL1 rfl
 refine wpAny_updateSeq (hz:=by seq_fits) gL2 rfl ?_
 have gL3:=HJ (Obj.mapSeq (·.pop)) gL2 rfl
 refine Jy ⟨plainId_quiet PySem.F.plain_extend_loop _,loop _ _ _ ?_ (fun b o hb e=>?_) gL3⟩
 ·refine Wk.frame 0 _ _ st fun b hb o e=>?_
  have hbL:b≠L:=fun h=>hLf (h ▸ hb)
  exact (HR _ _ (Ne.symm hbL)).trans ((HR _ _ (Ne.symm hbL)).trans e)
 ·exact (HR _ _ (Ne.symm hb)).trans ((HR _ _ (Ne.symm hb)).trans (keep b o e))
theorem pQ {G:List Value->Shared->Prop}(calm:A.handled=none)(S:dG knd s.heap a ks o es ep t)
  (fin:∀(g:Heap) (tk:Nat) (d:_) (got:Array Value),(∀b o,s.heap.get? b=some o->g.get? b=some o)->(∃l:List (Int×Value),l.Perm es.toList/\got.toList=l.map (·.2))->s.heap.objs.size<=g.objs.size->G got.toList { s with heap:=g,toks:=tk,drawn:=d }) :
  wpAny (model prog w) A (collect (.ref a)) G E s:=by
 have la:a<s.heap.objs.size:=GU S.at_
 unfold collect
 refine Jx (wpAny_runValue (JH entry_proto_collect' ?_))
 rw [HW PySem.F.plain_proto_collect _]
 show wpAny _ A.in1 (newList [] >>= fun z=>again (.builtin "list.__iadd__" ⟨[z,.ref a],[]⟩)) _ _ s
 refine Jx (JE (Jy ⟨plainId_quiet PySem.F.plain_list_iadd _,JH entry_list_iadd' ?_⟩))
 rw [HW PySem.F.plain_list_iadd _]
 show wpAny _ A.in1 (Builtin.List.listExtendWith (.ref s.heap.objs.size) (.ref a) (.ref s.heap.objs.size)) _ _ _
 have made:(s.heap.push { cls:=.type "list",data:=.seq ([]:List Value).toArray }).get? s.heap.objs.size=some { cls:=.type "list",data:=.seq #[] 0 }:=GX _ rfl
 have run:=xX (A:=A) (s:={ s with heap:=s.heap.push { cls:=.type "list",data:=.seq ([]:List Value).toArray } })
  (R:=fun (z:Result) (t:Shared)=>∃(g:Heap) (tk:Nat) (d:_) (got:Array Value) (c:Nat),z=.ok (.ret (.ref s.heap.objs.size))/\t={ s with heap:=g,toks:=tk,drawn:=d } /\
   (∀b o,s.heap.get? b=some o->g.get? b=some o)/\g.get? s.heap.objs.size=some { cls:=.type "list",dict:=none,data:=.seq got c,slots:=#[] }/\∃l:List (Int×Value),l.Perm es.toList/\got.toList=l.map (·.2))
  calm (S.keep fun o e=>GV _ e) s.heap.objs.size (HE la) made (.ref s.heap.objs.size)
  (fun g tk d got c kept at_ its=>⟨g,tk,d,got,c,rfl,rfl,fun b o e=>kept b o (G0 (GU e)) (GV _ e),at_,its⟩)
 refine Jz run (fun z t x=>?_) fun z t ⟨_,_,_,_,_,bad,_⟩=>by cases bad
 cases z with
 | done f =>
  obtain⟨g,tk,d,got,c,e,rfl,kept,at_,its⟩:=x
  cases e
  show wpAny _ A (load s.heap.objs.size >>= _) _ _ _
  exact Jx (wpAny_load at_ (Jy (fin g tk d got kept its (Ht (GU at_)))))
 | again more =>
  refine⟨x.1,JK x.2 fun z' t' ⟨g,tk,d,got,c,e1,e2,kept,at_,its⟩=>?_⟩
  subst e1 e2
  show wpAny _ A (load s.heap.objs.size >>= _) _ _ _
  exact Jx (wpAny_load at_ (Jy (fin g tk d got kept its (Ht (GU at_)))))
end
end LS
namespace L2
open PySem PySem.Spec PyProof.Rows LS
theorem vI {P:Program}{w:World}{i:Int}{v:Value}(h:(aT P w).is (Sum.inl i) v=true):∃t,v=.int i t:=by
 rcases cW (show ik (Sum.inl i) v=true from h) with ⟨j,t,e,rfl⟩ | ⟨x,t,e,rfl⟩
 ·cases e;exact⟨t,rfl⟩
 ·cases e
def pR (m:List Key):List Str:=m.filterMap fun k=>match k with | .inr x=>some x | .inl _=>none
def pS (m:List Key):List Int:=m.filterMap fun k=>match k with | .inl x=>some x | .inr _=>none
theorem zk (ss:List Str):pR (ss.map Sum.inr)=ss:=by
 induction ss with
 | nil=>rfl
 | cons x ss ih=>show x::pR (ss.map Sum.inr)=x::ss;rw [ih]
theorem zl (ss:List Int):pS (ss.map Sum.inl)=ss:=by
 induction ss with
 | nil=>rfl
 | cons x ss ih=>show x::pS (ss.map Sum.inl)=x::ss;rw [ih]
theorem Bc {m:List Key}{ss:List Str}(p:m.Perm (ss.map Sum.inr)):m=(pR m).map Sum.inr/\(pR m).Perm ss:=by
 refine⟨?_,by have:=p.filterMap (fun k:Key=>match k with | .inr x=>some x | .inl _=>none);rw [show List.filterMap _ (ss.map Sum.inr)=ss from zk ss] at this;exact this⟩
 have hall:∀k∈m,∃x,k=Sum.inr x:=fun k hk=>by
  obtain⟨x,_,rfl⟩:=G4.mp (p.mem_iff.mp hk)
  exact⟨x,rfl⟩
 clear p
 induction m with
 | nil=>rfl
 | cons k m ih =>
  obtain⟨x,rfl⟩:=hall k (GZ ..)
  have:=ih fun k hk=>hall k (G1 _ hk)
  show Sum.inr x::m=Sum.inr x::(pR m).map Sum.inr
  rw [<-this]
theorem Bd {m:List Key}{ss:List Int}(p:m.Perm (ss.map Sum.inl)):m=(pS m).map Sum.inl/\(pS m).Perm ss:=by
 refine⟨?_,by have:=p.filterMap (fun k:Key=>match k with | .inl x=>some x | .inr _=>none);rw [show List.filterMap _ (ss.map Sum.inl)=ss from zl ss] at this;exact this⟩
 have hall:∀k∈m,∃x,k=Sum.inl x:=fun k hk=>by
  obtain⟨x,_,rfl⟩:=G4.mp (p.mem_iff.mp hk)
  exact⟨x,rfl⟩
 clear p
 induction m with
 | nil=>rfl
 | cons k m ih =>
  obtain⟨x,rfl⟩:=hall k (GZ ..)
  have:=ih fun k hk=>hall k (G1 _ hk)
  show Sum.inl x::m=Sum.inl x::(pS m).map Sum.inl
  rw [<-this]
section
variable {prog:Program}{w:World}{A:Around}{E:Value->Shared->Prop}{s:Shared}{a:Addr}{ks:List Key}{o:Obj}{es:Array (Int×Value)}{ep:Nat}{t:SetTable}
theorem uL {got:List Value}(S:LS.dG (aT prog w) s.heap a ks o es ep t)(h:∃l:List (Int×Value),l.Perm es.toList/\got=l.map (·.2)):∃m:List Key,m.Perm ks/\Paired (fun v k=>(aT prog w).is k v=true) got m:=by
 obtain⟨l,hp,rfl⟩:=h
 obtain⟨ls,q1,q2⟩:=S.ents
 obtain⟨m,m1,m2⟩:=jL hp q2
 refine⟨m,m1.trans q1,?_⟩
 clear hp q2 m1
 induction m2 with
 | nil=>exact .nil
 | cons r _ ih=>exact .cons r.1 ih
theorem my:∀{got:List Value} {ss:List Str},Paired (fun v k=>(aT prog w).is k v=true) got (ss.map Sum.inr)->StrsAre got ss
 | _,[],.nil=>.nil
 | _,x::ss,.cons r t=>by
  obtain⟨t',rfl⟩:=jK r
  exact .cons x t' (my t)
theorem mz:∀{got:List Value} {ss:List Int},Paired (fun v k=>(aT prog w).is k v=true) got (ss.map Sum.inl)->IntsAre got ss
 | _,[],.nil=>.nil
 | _,x::ss,.cons r t=>by
  obtain⟨t',rfl⟩:=vI r
  exact .cons x t' (mz t)
theorem vJ {ss:List Str}{Q:Value->Shared->Prop}(hh:A.handled=none)(S:LS.dG (aT prog w) s.heap a (ss.map Sum.inr) o es ep t)(h64:ss.length<64)
  (q:∀(h':Heap) (tk:Nat) (d:_) (D:Addr) (out:Array Value) (ss':List Str) (e:Nat),(∀b o,s.heap.get? b=some o->h'.get? b=some o)->s.heap.objs.size<=D->h'.get? D=some { cls:=.type "list",data:=.seq out e } ->
   StrsAre out.toList ss'->ss'.Perm ss->sortedS ss' = true->Q (.ref D) { s with heap:=h',toks:=tk,drawn:=d }) :
  wpAny (model prog w) A (call (.builtin "sorted") [.ref a]) Q E s:=by
 refine Calls.call_function_entry kind_sorted plain_sorted entry_sorted (args_sorted1 _) ?_
 unfold Builtin.«sorted»
 refine Jx (m:=checkCount "sorted" 1 1 _) (Jy ?_)
 refine Jx (pQ (A:=A.in1) hh S fun h' tk d acc hkeep hacc hsz=>?_)
 obtain⟨m,m1,m2⟩:=uL S hacc
 obtain⟨e1,p1⟩:=Bc m1
 rw [e1] at m2
 have hS:=my m2
 have hl:acc.toList.length<64:=by rw [m2.length,GO,p1.length_eq];exact h64
 refine Jx (wpAny_newList ?_ (GY (Ht hl) (by decide)))
 have hoL:(h'.push (seqObj "list" acc.toList.toArray 0)).get? h'.objs.size=some (seqObj "list" acc.toList.toArray 0):=GX _ rfl
 refine Jx (JB (JC slot_list_sort ⟨_,hoL,rfl⟩ entry_list_sort (list_sort_treeK strKind_oneLt hoL hS.keysOf (fun v₁ v₂ rest e=>keyKind_strs (by rw [<-e];exact hS)) hl fun st' a1 a2=>⟨_,rfl,?_⟩) (args_list_sort _)))
 obtain⟨ss',b1,b2,b3⟩:=sorted_out_str hS a1 a2
 obtain⟨e,he⟩:=sortedHeap_at (out:=(arrOf st').map (·.2)) hoL
 refine Jy ⟨_,rfl,q _ tk d _ _ ss' e (fun b o ho=>?_) hsz he b1 (b2.trans p1) b3⟩
 have h1:=hkeep b o ho
 have hlt:=GU h1
 rw [sortedHeap_old (G0 hlt) (by rw [size_push'];exact Hy hlt)]
 exact GV _ h1
theorem vK {ss:List Int}{Q:Value->Shared->Prop}(hh:A.handled=none)(S:LS.dG (aT prog w) s.heap a (ss.map Sum.inl) o es ep t)(h64:ss.length<64)
  (q:∀(h':Heap) (tk:Nat) (d:_) (D:Addr) (out:Array Value) (ss':List Int) (e:Nat),(∀b o,s.heap.get? b=some o->h'.get? b=some o)->s.heap.objs.size<=D->h'.get? D=some { cls:=.type "list",data:=.seq out e } ->
   IntsAre out.toList ss'->ss'.Perm ss->ss'.Pairwise (· <= ·)->Q (.ref D) { s with heap:=h',toks:=tk,drawn:=d }) :
  wpAny (model prog w) A (call (.builtin "sorted") [.ref a]) Q E s:=by
 refine Calls.call_function_entry kind_sorted plain_sorted entry_sorted (args_sorted1 _) ?_
 unfold Builtin.«sorted»
 refine Jx (m:=checkCount "sorted" 1 1 _) (Jy ?_)
 refine Jx (pQ (A:=A.in1) hh S fun h' tk d acc hkeep hacc hsz=>?_)
 obtain⟨m,m1,m2⟩:=uL S hacc
 obtain⟨e1,p1⟩:=Bd m1
 rw [e1] at m2
 have hS:=mz m2
 have hl:acc.toList.length<64:=by rw [m2.length,GO,p1.length_eq];exact h64
 refine Jx (wpAny_newList ?_ (GY (Ht hl) (by decide)))
 have hoL:(h'.push (seqObj "list" acc.toList.toArray 0)).get? h'.objs.size=some (seqObj "list" acc.toList.toArray 0):=GX _ rfl
 refine Jx (JB (JC slot_list_sort ⟨_,hoL,rfl⟩ entry_list_sort (list_sort_tree hoL hS hl fun out ss' b1 b2 b3=>⟨_,rfl,?_⟩) (args_list_sort _)))
 obtain⟨e,he⟩:=sortedHeap_at (out:=out) hoL
 refine Jy ⟨_,rfl,q _ tk d _ _ ss' e (fun b o ho=>?_) hsz he b1 (b2.trans p1) b3⟩
 have h1:=hkeep b o ho
 have hlt:=GU h1
 rw [sortedHeap_old (G0 hlt) (by rw [size_push'];exact Hy hlt)]
 exact GV _ h1
end
def cO (P:Program)(w:World)(a:Addr)(ks:List Key):HO:=.ext fun h=>eE (aT P w) h a ks
theorem j8 {P:Program}{w:World}{H:Hp}{h:Heap}{a:Addr}{ks:List Key}(S:eE (aT P w) h a ks):cy P w H h a (cO P w a ks) :=
 ⟨S,let ⟨o,_,_,_,S⟩:=S;⟨o,S.at_⟩,fun h1 h2 S k=>S.keep k⟩
section
variable {X:Cx}{pins:List (Addr×Obj)}{GK : List (Option V)}{H:Hp}{s:Shared}
theorem Inv.qX {a:Addr}{ks:List Key}(I:Inv X pins GK H s)(h:H a=some (cO X.prog X.w a ks)):eE (aT X.prog X.w) s.heap a ks:=(I.aW a _ h).1
theorem Inv.wO {d:_}(I:Inv X pins GK H s):Inv X pins GK H { s with drawn:=d }:=⟨I.ok,I.os,I.bare,I.base,I.loc,I.cell,I.free,I.fj,I.pin,I.aW,I.len⟩
theorem tH (hc:X.calm=true):er X (.builtin "sorted") (fun vs H Q=>∃(a:Addr) (ss:List Str),vs=[.ref a]/\H a=some (cO X.prog X.w a (ss.map Sum.inr))/\ss.length<64 /\
  ∀(l:Addr) (ss':List Str),ss'.Perm ss->sortedS ss' = true->H l=none->Q (.ref l) (upd H l (.lst (ss'.map V.str)))):=by
 intro pins s GK H xs us Q I r h
 obtain⟨a,ss,rfl,ha,h64,q⟩:=h
 obtain⟨u,rfl,ru⟩:=vals1 r
 cases (show u=Value.ref a from ru)
 obtain⟨o,es,ep,t,S⟩:=I.qX ha
 refine vJ (I.ok.hd hc) S h64 fun h' tk d D out ss' e hkeep hD he hS hp hs=>?_
 have hv:Vals (ss'.map V.str) out.toList:=qU hS
 refine⟨.ref D,_,(I.wO (d:=d)).laid (t':=tk) (o:=.lst (ss'.map V.str)) hkeep hD (show cy X.prog X.w _ h' _ (.lst (ss'.map V.str)) from ⟨?_,out.toList,e,hv,by simpa using he⟩),rfl,q D ss' hp hs (I.aW.fresh hD)⟩
 rw [GO,hp.length_eq]
 exact GY (Ht h64) (by decide)
theorem lF (hc:X.calm=true):er X (.builtin "sorted") (fun vs H Q=>∃(a:Addr) (ss:List Int),vs=[.ref a]/\H a=some (cO X.prog X.w a (ss.map Sum.inl))/\ss.length<64 /\
  ∀(l:Addr) (ss':List Int),ss'.Perm ss->ss'.Pairwise (· <= ·)->H l=none->Q (.ref l) (upd H l (.lst (ss'.map V.int)))):=by
 intro pins s GK H xs us Q I r h
 obtain⟨a,ss,rfl,ha,h64,q⟩:=h
 obtain⟨u,rfl,ru⟩:=vals1 r
 cases (show u=Value.ref a from ru)
 obtain⟨o,es,ep,t,S⟩:=I.qX ha
 refine vK (I.ok.hd hc) S h64 fun h' tk d D out ss' e hkeep hD he hS hp hs=>?_
 have hv:Vals (ss'.map V.int) out.toList:=mh hS
 refine⟨.ref D,_,(I.wO (d:=d)).laid (t':=tk) (o:=.lst (ss'.map V.int)) hkeep hD (show cy X.prog X.w _ h' _ (.lst (ss'.map V.int)) from ⟨?_,out.toList,e,hv,by simpa using he⟩),rfl,q D ss' hp hs (I.aW.fresh hD)⟩
 rw [GO,hp.length_eq]
 exact GY (Ht h64) (by decide)
end
end L2
namespace LS
open PySem PySem.Spec PyProof.Rows L2
section
variable {K:Type}[DecidableEq K]
def putIn (acc:List K)(k:K):List K:=if k∈acc then acc else acc++[k]
def dW (ms:List K):List K:=ms.foldl putIn []
theorem iB {acc:List K}{k x:K}:x∈putIn acc k↔x∈acc\/x=k:=by
 unfold putIn
 split
 ·rename_i h
  exact⟨.inl,fun z=>z.elim id (fun e=>e ▸ h)⟩
 ·simp
theorem zm (acc:List K)(k:K):(putIn acc k).length<=acc.length+1:=by unfold putIn;split <;> simp
theorem uM:∀(ms acc:List K) (x:K),x∈ms.foldl putIn acc↔x∈acc\/x∈ms
 | [],acc,x=>by simp
 | k::ms,acc,x=>by
  rw [Iu,uM ms,iB]
  simp [or_assoc]
theorem sF {ms:List K}{x:K}:x∈dW ms↔x∈ms:=by unfold dW;rw [uM];simp
theorem uN:∀(ms acc:List K),(ms.foldl putIn acc).length<=acc.length+ms.length
 | [],acc=>by simp
 | k::ms,acc=>by
  rw [Iu]
  have:=uN ms (putIn acc k)
  have:=zm acc k
  simp only [Hq];omega
theorem wQ:∀(ms acc:List K),acc.Nodup->(ms.foldl putIn acc).Nodup
 | [],acc,h=>h
 | k::ms,acc,h=>by
  rw [Iu]
  refine wQ ms _ ?_
  unfold putIn
  split
  ·exact h
  ·rename_i hn
   rw [Ij]
   exact⟨h,by simp,fun a ha b hb e=>hn (by rw [GR] at hb;rw [<-hb,<-e];exact ha)⟩
theorem uO (ms:List K):(dW ms).Nodup:=wQ ms [] Iy
end
section
variable {prog:Program}{w:World}{A:Around}{E:Value->Shared->Prop}{s:Shared}
theorem uP {k:Key}{v:Value}(h:(aT prog w).is k v=true):v.scannable=true:=by
 rcases cW (show ik k v=true from h) with ⟨j,t,_,rfl⟩ | ⟨x,t,_,rfl⟩ <;> rfl
theorem qY {a:Addr}{ks:List Key}{k:Key}{v:Value}{Q:Bool->Shared->Prop}(hk:(aT prog w).is k v=true)(S:eE (aT prog w) s.heap a ks)(room:ks.length+1<scanBound)
  (q:∀h',Hk a s.heap h'->eE (aT prog w) h' a (putIn ks k)->∀c:Bool,Q c { s with heap:=h',toks:=s.toks+1 }):wpAny (model prog w) A (setAdd a v) Q E s:=by
 unfold setAdd
 refine JB ?_
 refine Jx ((aT prog w).pyHash hk ?_)
 exact xU (s:={ s with toks:=s.toks+1 }) hk (uP hk) S room fun h' b S'=>q h' b S' _
theorem Be {a:Addr}{ks:List Key}{k:Key}{v:Value}{Q:Value->Shared->Prop}(hk:(aT prog w).is k v=true)(S:eE (aT prog w) s.heap a ks)(room:ks.length+1<scanBound)
  (q:∀h',Hk a s.heap h'->eE (aT prog w) h' a (putIn ks k)->Q .none { s with heap:=h',toks:=s.toks+1 }):wpAny (model prog w) A (call (.builtin "set.add") [.ref a,v]) Q E s:=by
 refine JC PySem.F.slot_set_add S.setOf.typeIs PySem.F.entry_set_add ?_ (PySem.F.args_set_add_2 _ _)
 unfold Builtin.«set.add» Builtin.Frozenset.oneOther
 simp only [List.isEmpty_nil,bind_assoc]
 unfold Builtin.Frozenset.addrOf
 refine Jx (Jy ?_)
 refine Jx (Jy ?_)
 refine Jx (qY hk S room fun h' b S' _=>?_)
 exact Jy ⟨_,rfl,q h' b S'⟩
theorem zo {I L:Addr}{fp wr:List Addr}{G:Array GenState->Array GenState->Prop}{n:Nat}{P:Nat->Value->Prop}{St:Nat->Shared->Prop}{R:Result->Shared->Prop}(W:WalksS prog w A.in1 I fp wr G n P St)(hLf:L∉fp)
  (ms:List Key) (hl:ms.length=n) (hm:∀i v,P i v->∃k,ms[i]?=some k/\(aT prog w).is k v=true) (hb:n+1<scanBound) :
  ∀(k i:Nat) (s:Shared),n-i=k->i<=n->St i s->eE (aT prog w) s.heap L (dW (ms.take i)) ->
   (∀s',Moved (L::wr) G s s'->eE (aT prog w) s'.heap L (dW ms)->R (.ok (.ret .none)) s') ->
   codeAny (model prog w) A (.builtin "set.update.loop" ⟨[.ref L,.ref I],[]⟩) R s:=by
 have hLw:L∉wr:=fun h=>hLf (W.sub _ h)
 intro k
 induction k with
 | zero =>
  intro i s hk hi st S q
  have e:i=n:=by omega
  subst e
  refine JH PyProof.Rows.F.entry_set_update_loop ?_
  rw [HW PyProof.Rows.F.plain_set_update_loop _]
  show wpAny _ A.in1 (pyNext (.ref I) >>= _) _ _ s
  refine Jx (W.done s _ _ st fun s' mv=>?_)
  refine Jy (q s' (mv.mono fun b hb=>G1 _ hb) ?_)
  rw [Iw (by omega)] at S
  exact S.keep fun o e=>mv.heap L _ hLw e
 | succ k ih =>
  intro i s hk hi st S q
  have hlt:i<n:=by omega
  refine JH PyProof.Rows.F.entry_set_update_loop ?_
  rw [HW PyProof.Rows.F.plain_set_update_loop _]
  show wpAny _ A.in1 (pyNext (.ref I) >>= _) _ _ s
  refine Jx (W.item i s _ _ hlt st fun v s' hP st' mv=>?_)
  obtain⟨key,hkey,his⟩:=hm i v hP
  have S':eE (aT prog w) s'.heap L (dW (ms.take i)):=S.keep fun o e=>mv.heap L _ hLw e
  refine Jx (JB (qY his S' ?_ fun h' sb S2 _=>?_))
  ·have h1:=uN (ms.take i) []
   have h2:(ms.take i).length<=i:=by rw [Hm];omega
   have h3:(dW (ms.take i)).length<=0+(ms.take i).length:=h1
   omega
  ·have e1:putIn (dW (ms.take i)) key=dW (ms.take (i+1)):=by
    unfold dW
    rw [Hi,hkey,Jh];rfl
   rw [e1] at S2
   refine Jy ⟨plainId_quiet PyProof.Rows.F.plain_set_update_loop _,ih (i+1) _ (by omega) hlt (W.frame _ s' _ _ st' (HP _) fun b hb o e=>?_) S2 fun s'' mv2 S3=>?_⟩
   ·rw [sb.2 b (fun h:b=L=>hLf (by rw [<-h];exact hb))];exact e
   ·refine q s'' (Moved.trans W.gtrans ((mv.mono fun b hb=>G1 _ hb).then_heap (HP _) fun b o hb e=>?_) mv2) S3
    rw [sb.2 b (fun h:b=L=>hb (by rw [h];exact GZ))];exact e
end
theorem kH {α β : Type}{F:α->β->Prop}:∀{l:List α} {m:List β},Paired F l m->∀{i:Nat} {x:α},l[i]?=some x->∃y,m[i]?=some y/\F x y
 | _,_,.nil,i,x,e=>by simp at e
 | _,_,.cons r _,0,x,e=>by simp at e;subst e;exact⟨_,rfl,r⟩
 | _,_,.cons _ t,i+1,x,e=>by simpa using kH t (i:=i) (x:=x) (by simpa using e)
def di (w:World):Obj:={ cls:=.type "set",dict:=none,data:=.set #[] 0 (.fresh 0 0 (!(w.params.followText "set-order"))) }
section
variable {prog:Program}{w:World}{A:Around}{E:Value->Shared->Prop}{s:Shared}
theorem zp (rest:List Value) (hc:checkBuiltinCall "set.__new__" ⟨.type "set" :: rest,[]⟩=pure ()) {Q:Value->Shared->Prop} (q:Q (.ref s.heap.objs.size) { s with heap:=s.heap.push (di w) }) :
  codeAny (model prog w) A (.call (.builtin "set.__new__") ⟨.type "set" :: rest,[]⟩) (wants Q E) s:=by
 refine codeAny_of_tree ?_
 show wpAny _ A.in1 (checkBuiltinCall "set.__new__" ⟨.type "set" :: rest,[]⟩ >>= fun _=>again (.builtin "set.__new__" ⟨.type "set" :: rest,[]⟩)) _ _ s
 refine Jx (wpAny_of_eq hc (Jy ⟨plainId_quiet PySem.F.plain_set_new _,JH PySem.F.entry_set_new ?_⟩))
 rw [HW PySem.F.plain_set_new _]
 unfold Builtin.«set.__new__» Builtin.Frozenset.newClass
 have hsub:=sub_set_self
 obtain⟨hp,g,d,tk,os⟩:=s
 dsimp only
 wp_walk
 refine JZ (Jy ?_)
 dsimp only
 simp only [newObj]
 refine Jx (JW (Jy ?_))
 exact Jy q
theorem uQ {rest:List Value} {Q:Value->Shared->Prop} (hct:checkTypeCall "set" ⟨rest,[]⟩=pure ()) (hcn:checkBuiltinCall "set.__new__" ⟨.type "set" :: rest,[]⟩=pure ())
  (hci:∀(M:Model) (A:Around) (E:Value->Shared->Prop) (s':Shared) (Q':Unit->Shared->Prop),s'.TypeIs (.ref s.heap.objs.size) "set" -> Q' () s'->wpAny M A (checkBuiltinCall "set.__init__" ⟨.ref s.heap.objs.size::rest,[]⟩) Q' E s')
  (init:∀(R:Result->Shared->Prop),(∀h' tk,(∀b o,s.heap.get? b=some o->h'.get? b=some o)->Q (.ref s.heap.objs.size) { s with heap:=h',toks:=tk }->R (.ok (.ret .none)) { s with heap:=h',toks:=tk }) ->
   wpAny (model prog w) A.in1.in1 (Builtin.«set.__init__» ⟨.ref s.heap.objs.size::rest,[]⟩) (fun fin s'=>match fin with | .done f=>R (.ok f) s' | .again c'=>c'.quiet=true/\codeAny (model prog w) A.in1 c' R s') (fun e s'=>R (.error e) s')
    { s with heap:=s.heap.push (di w) }) :
  wpAny (model prog w) A (call (.type "set") rest) Q E s:=by
 obtain⟨c,tl,hmro⟩:=PySem.F.called_set.mro
 have hmade:=PySem.F.called_set.made
 have hsub:=PySem.F.called_set.sub
 refine wpAny_call (codeAny_of_tree ?_)
 show wpAny _ _ (callAny (.type "set") _) _ _ _
 refine Jy ⟨Code.quiet_builtin _ (by decide +kernel),JH PySem.F.entry_type_call ?_⟩
 rw [Around.under_plain (weight_type_call_type "set" rest []) rfl]
 have h1:=PySem.F.called_set.notType
 have h2:=PySem.F.called_set.canCreate
 repeat (any_goals (first | assumption | wp_step))
 refine JK (zp (w:=w) rest hcn (E:=E) (Q:=fun obj s₁=>obj=.ref s.heap.objs.size/\s₁ = { s with heap:=s.heap.push (di w) }) ⟨rfl,rfl⟩) fun r s₁ hr=>?_
 cases r with
 | error e=>exact hr
 | ok fl =>
  cases fl with
  | ret obj =>
   obtain⟨rfl,rfl⟩:=hr
   have hS:(s.heap.push (di w)).get? s.heap.objs.size=some (di w):=GX _ rfl
   have hT:Shared.TypeIs { s with heap:=s.heap.push (di w) } (.ref s.heap.objs.size) "set" := ⟨_,hS,rfl⟩
   have hli:=PySem.F.called_set.init.lookup
   have hbi:=PySem.F.called_set.init.bind (.ref s.heap.objs.size)
   repeat (any_goals (first | assumption | wp_step))
   refine JK (codeAny_call_builtin (R:=wants (fun r s₂=>r=.none/\Q (.ref s.heap.objs.size) s₂) E) PySem.F.called_set.init.plain PySem.F.entry_set_init (hci _ _ _ _ _ hT (init _ fun h' tk _ q=>⟨rfl,q⟩))) fun r₂ s₂ hr₂=>?_
   cases r₂ with
   | error e=>exact hr₂
   | ok fl₂ =>
    cases fl₂ with
    | ret r =>
     obtain⟨rfl,hq⟩:=hr₂
     repeat (any_goals (first | assumption | wp_step))
    | _=>exact hr₂.elim
  | _=>exact hr.elim
theorem zq {Q:Value->Shared->Prop}(q:∀h',eE (aT prog w) h' s.heap.objs.size []->(∀b o,s.heap.get? b=some o->h'.get? b=some o)->Q (.ref s.heap.objs.size) { s with heap:=h' }):wpAny (model prog w) A (call (.type "set") []) Q E s:=by
 refine uQ PySem.F.typeCall_set_0 PySem.F.newCall_set_0 (fun M A E s' Q' hT q'=>check_set_init hT q') fun R fin=>?_
 have hS:(s.heap.push (di w)).get? s.heap.objs.size=some (di w):=GX _ rfl
 have hT:Shared.TypeIs { s with heap:=s.heap.push (di w) } (.ref s.heap.objs.size) "set" := ⟨_,hS,rfl⟩
 unfold di at hS hT ⊢
 unfold Builtin.«set.__init__» noKeywords
 wp_walk
 exact fin _ s.toks (fun b o e=>GV _ e) (q _ (mr rfl hS) fun b o e=>GV _ e)
theorem set_list {l:Addr}{items:Array Value}{ms:List Key}{Q:Value->Shared->Prop}(hh:A.handled=none)(hl:s.heap.IsList l items)(hm:Paired (fun v k=>(aT prog w).is k v=true) items.toList ms)(hb:items.size+1<scanBound)
  (q:∀h' tk,eE (aT prog w) h' s.heap.objs.size (dW ms)->(∀b o,s.heap.get? b=some o->h'.get? b=some o)->Q (.ref s.heap.objs.size) { s with heap:=h',toks:=tk }):wpAny (model prog w) A (call (.type "set") [.ref l]) Q E s:=by
 refine uQ (PySem.F.typeCall_set_1 _) (PySem.F.newCall_set_1 _) (fun M A E s' Q' hT q'=>check_set_init_1 hT q') fun R fin=>?_
 have hS:(s.heap.push (di w)).get? s.heap.objs.size=some (di w):=GX _ rfl
 have hT:Shared.TypeIs { s with heap:=s.heap.push (di w) } (.ref s.heap.objs.size) "set" := ⟨_,hS,rfl⟩
 have hz:(s.heap.push (di w)).objs.size=s.heap.objs.size+1:=Hc _ _
 obtain⟨ol,hol,hcl,nl,hdl⟩:=id hl
 obtain⟨ocls,odict,odata,oslots⟩:=ol
 simp only at hcl hdl
 subst hcl
 subst hdl
 have hol':(s.heap.push (di w)).get? l=some { cls:=.type "list",dict:=odict,data:=.seq items nl,slots:=oslots }:=GV _ hol
 have hsls:=PySem.F.sub_list_set
 have hslf:=PySem.F.sub_list_frozenset
 have hne:(Value.type "list" == Value.type "dict")=false:=by decide
 have hl1:(s.heap.push (di w)).IsList l items:=⟨_,hol',rfl,nl,rfl⟩
 have hlS:l<s.heap.objs.size:=GU hol
 unfold di at hS hT hz hol' hl1 ⊢
 unfold Builtin.«set.__init__» noKeywords Builtin.Frozenset.updateFrom
 generalize hPI:pyIter=PI
 wp_walk
 subst hPI
 refine J3 hl1 ?_
 refine Jx (wpAny_runValue ?_)
 have hh3:A.in1.in1.in1.handled=none:=by simp [hh]
 refine zo (L:=s.heap.objs.size) ((Walks.list hh3 _ l ?_ items).toS) ?_ ms ?_ (fun i v hv=>?_) hb (items.size-0) 0 _ (by omega) (Hg _) ⟨⟨_,GX _ rfl,rfl,rfl⟩,(hl1.push _)⟩ ?_ fun s' mv S'=>?_
 ·rw [hz];exact G0 (Hy hlS)
 ·rw [hz]
  intro hmem
  rcases mx hmem with e | e
  ·exact absurd e (G0 (HG _))
  ·exact absurd e (HE hlS)
 ·rw [<-hm.length,Hw]
 ·have hv':items.toList[i]?=some v:=by rw [IH];exact hv
  exact kH hm hv'
 ·exact mr rfl (GV _ hS)
 ·obtain⟨h',g',d',tk',os'⟩:=s'
  have eg:g' = s.gens:=mv.gens
  have ed:d' = s.drawn:=mv.drawn
  have eo:os' = s.os:=mv.os
  subst eg;subst ed;subst eo
  have kp:∀b o,s.heap.get? b=some o->h'.get? b=some o:=fun b o e=>mv.heap b o (fun hm=>by
   rcases mx hm with e' | e'
   ·exact absurd e' (G0 (GU e))
   ·rw [hz] at e';exact absurd e' (G0 (Hy (GU e)))) (GV _ (GV _ e))
  show wpAny _ _ _ _ _ _
  refine Jy ?_
  exact Jy (fin h' tk' kp (q h' tk' S' kp))
end
end LS
namespace L2
open PySem PySem.Spec PyProof.Rows LS
theorem zr:bootBuiltins "set" = some (.type "set"):=by decide +kernel
theorem C5 {K:Type}[DecidableEq K]{k:K}{ks:List K}:decide (k∈ks)=true↔k∈ks:=decide_eq_true_iff
theorem nB {P:Program}{w:World}{k:Key}{v:Value}(r:RelV (kV k) v):(aT P w).is k v=true:=by
 cases k with
 | inl i=>obtain⟨t,rfl⟩:=r;exact nO P w i t
 | inr x=>obtain⟨t,rfl⟩:=r;exact nP P w x t
theorem nY {P:Program}{w:World}:∀{ks:List Key} {us:List Value},Vals (ks.map kV) us->Paired (fun v k=>(aT P w).is k v=true) us ks
 | [],_,.nil=>.nil
 | k::ks,_,.cons r t=>.cons (nB r) (nY t)
section
variable {X:Cx}
theorem Inv.GF {pins:List (Addr×Obj)}{GK : List (Option V)}{H:Hp}{s:Shared}{n:Nat}(I:Inv X pins GK H s):Inv X pins GK H { s with toks:=n }:=⟨I.ok,I.os,I.bare,I.base,I.loc,I.cell,I.free,I.fj,I.pin,I.aW,I.len⟩
theorem zt:er X (.type "set") (fun vs H Q=>vs=[]/\∀l,H l=none->Q (.ref l) (upd H l (cO X.prog X.w l []))):=by
 intro pins s GK H xs us Q I r h
 obtain⟨rfl,q⟩:=h
 cases r
 refine zq fun h' S kp=>?_
 exact⟨.ref s.heap.objs.size,_,I.laid (t':=s.toks) kp (GQ _) (j8 S),rfl,q _ I.fresh⟩
theorem zu (hc:X.calm=true):er X (.type "set") (fun vs H Q=>∃(p:Addr) (ks:List Key),vs=[.ref p]/\aU X.K H p (ks.map kV)/\ks.length+1<scanBound/\∀l,H l=none->Q (.ref l) (upd H l (cO X.prog X.w l (dW ks)))):=by
 intro pins s GK H xs us Q I r h
 obtain⟨p,ks,rfl,hp,hz,q⟩:=h
 obtain⟨u,rfl,ru⟩:=vals1 r
 cases (show u=Value.ref p from ru)
 obtain⟨its,hv,pl,_⟩:=I.list hp
 have hm:=nY (P:=X.prog) (w:=X.w) hv
 refine LS.set_list (I.ok.hd hc) pl.isList (by simpa using hm) (by have:=hm.length;simp at this ⊢;omega) fun h' tk S kp=>?_
 exact⟨.ref s.heap.objs.size,_,I.laid (t':=tk) kp (GQ _) (j8 S),rfl,q _ I.fresh⟩
def Gh (P:Program)(w:World)(neg:Bool):R2:=fun x y H Q=>∃a ks k,y=.ref a/\H a=some (cO P w a ks)/\x=kV k/\∀b:Bool,(b=true↔k∈ks)->Q (.bl (if neg then !b else b)) H
theorem zv:dX X (compareOp .NotIn) (Gh X.prog X.w true):=by
 intro pins s GK H x y v u Q I rx ry h
 obtain⟨a,ks,k,rfl,ha,rfl,q⟩:=h
 cases ry
 have hk:(aT X.prog X.w).is k v=true:=nB rx
 have S:=(I.qX ha).setOf
 exact wpAny_notInSet_of hk (uP hk) S ⟨.bl _,H,I.GF,rfl,q _ C5⟩
def Gi (P:Program)(w:World)(r:V->List V->Hp->VK->Prop)(to:TE)(t:TA):TE:=fun GK H Q=>to GK H fun x H1=>(∃a ks,x=.ref a/\H1 a=some (cO P w a ks))/\t GK H1 fun xs H2=>r x xs H2 Q
variable {o e:Expr}{es:List Expr}{to:TE}{t:TA}{name:Str}{apos cpos:Pos}{id:String}{r:V->List V->Hp->VK->Prop}
theorem zw (slot:Slot "set" name id) (hty:typeOf (.builtin id)=pure (.type "method_descriptor")) (hm:um X id r) (ho:PE X o to) (ha:PA X (e::es) t)
  (hbase:attributeBase o name X.env (eval o X.env)=eval o X.env:=by rfl)
  (hfew:((backTo cpos (starEach (e::es) X.env)).all (fun x=>!x.1)&&(backToKw cpos (keywordEach [] X.env)).all (fun x=>x.1.isSome)
   && decide ((e::es).length+([]:List Keyword).length+(if ([]:List Keyword).isEmpty then 0 else 1)<30))=true:=by rfl)
  (hline:(apos.endLine == cpos.line)=true:=by rfl) (hs:starEach (e::es) X.env=(false,eval e X.env)::starEach es X.env:=by rfl) (hplain:(backTo cpos (starEach es X.env)).any (·.1)=false:=by rfl) :
  PE X (.Call (.Attribute o name apos) (e::es) [] cpos) (Gi X.prog X.w r to t):=by
 intro pins s GK H Q I h
 refine wpAny_Call_method_late hbase hfew hline rfl (bg (ho pins s GK H _ I h) fun v s1 ⟨x,H1,I1,r1,ty,q1⟩=>?_)
 obtain⟨a,ks,rfl,hset⟩:=ty
 cases (show v=Value.ref a from r1)
 have S:=(I1.qX hset).setOf
 refine⟨"set",id,PySem.F.plainAttrs_set,slot,hty,S.typeIs,S.noDict,?_⟩
 have hA:=ha cpos pins s1 GK H1 _ I1 q1
 rw [hs] at hA ⊢
 refine Calls.callWith_builtin (by show (false||(backTo cpos (starEach es X.env)).any (·.1))=false;rw [hplain] <;> rfl) (Calls.evalArgs_plain ?_)
 exact bg hA fun us s2 ⟨vs,H2,I2,r2,q2⟩=>hm pins s2 GK H2 (.ref a) vs (.ref a) us Q I2 rfl r2 q2
def Fi (P:Program)(w:World):V->List V->Hp->VK->Prop:=fun x vs H Q=>∃a ks k,x=.ref a/\vs=[kV k]/\H a=some (cO P w a ks)/\ks.length+1<scanBound/\Q .bC (upd H a (cO P w a (putIn ks k)))
theorem wR:um X "set.add" (Fi X.prog X.w):=by
 intro pins s GK H x xs v us Q I rx r h
 obtain⟨a,ks,k,rfl,rfl,ha,hz,q⟩:=h
 cases (show v=Value.ref a from rx)
 obtain⟨u,rfl,ru⟩:=vals1 r
 refine Be (nB ru) (I.qX ha) hz fun h' b S'=>?_
 refine⟨.bC,_,I.write (t':=s.toks+1) (x:=a) (e:=a) (by rw [ha];exact trivial) (.inl rfl) (fun c u' hc hu=>b.extBut c u' hc hu) ?_ (j8 S'),rfl,q⟩
 obtain⟨o,_,_,_,So⟩:=S'
 exact⟨o,So.at_⟩
end
structure tV (K:GP) (mg:Str->Option Value) (aD d0 d1 d2 d3 d4:Addr):Prop where
 tab:AS K mg "DEED_PARTS" aD [("put",d0),("copy",d1),("add",d2),("read",d3),("tell",d4)]
 q0:KTup K d0 ["name", "number"]
 q1:KTup K d1 ["name", "name"]
 q2:KTup K d2 ["name", "number"]
 q3:KTup K d3 ["name"]
 q4:KTup K d4 ["name"]
def dZ:cf->List Str
 | .put x _=>[x]
 | .copy x y=>[x,y]
 | .add x _=>[x]
 | .read x=>[x]
 | .tell x=>[x]
def jh:End->List Str
 | .bu _ x _ _ _=>[x]
 | _=>[]
def pNames (p:Piece):List Str:=p.1.flatMap dZ++jh p.2
def bV (ps:List Piece):List Str:=ps.flatMap pNames
def kD:cf->List Str
 | .put ..=>["name", "number"]
 | .copy ..=>["name", "name"]
 | .add ..=>["name", "number"]
 | .read ..=>["name"]
 | .tell ..=>["name"]
def wD:cf->Str
 | .put .. => "put"
 | .copy .. => "copy"
 | .add .. => "add"
 | .read .. => "read"
 | .tell .. => "tell"
theorem xY (d:cf):∃xs,jx d=.str (wD d)::xs/\xs.length<=1000/\pick "name" xs (kD d)=(dZ d).map V.str:=by
 have h2:¬("number" : Str) = "name" := by decide +kernel
 cases d with
 | put x n=>exact⟨_,rfl,by show 2<=1000;decide,by simp [pick,kD,dZ,h2]⟩
 | copy x y=>exact⟨_,rfl,by show 2<=1000;decide,by simp [pick,kD,dZ]⟩
 | add x n=>exact⟨_,rfl,by show 2<=1000;decide,by simp [pick,kD,dZ,h2]⟩
 | read x=>exact⟨_,rfl,by show 1<=1000;decide,by simp [pick,kD,dZ]⟩
 | tell x=>exact⟨_,rfl,by show 1<=1000;decide,by simp [pick,kD,dZ]⟩
theorem xZ (e:End):∃xs,cx e=.str (wE e)::xs/\xs.length<=1000/\pick "name" xs (kE e)=(jh e).map V.str:=by
 have h1:¬("piece" : Str) = "name" := by decide +kernel
 have h2:¬("number" : Str) = "name" := by decide +kernel
 cases e with
 | stop=>exact⟨[],rfl,by decide,rfl⟩
 | go p=>exact⟨_,rfl,by show 1<=1000;decide,by simp [pick,kE,jh,h1]⟩
 | bu b x n p q=>exact⟨_,rfl,by show 4<=1000;decide,by simp [pick,kE,jh,h1,h2]⟩
theorem j9 {k:Str}{d:Addr}{D:List (Str×Addr)}:KTD.datumAt k ((k,d)::D)=some d:=by
 show (if decide (k=k)=true then some d else KTD.datumAt k D)=some d
 rw [if_pos (decide_eq_true rfl)]
theorem eT {k x:Str}{d:Addr}{D:List (Str×Addr)}{o:Option Addr}(h:¬k=x)(e:KTD.datumAt k D=o):KTD.datumAt k ((x,d)::D)=o:=by
 show (if decide (k=x)=true then some d else KTD.datumAt k D)=o
 rw [if_neg (by rw [decide_eq_false h];decide)]
 exact e
theorem tV.at_ {K:GP}{mg:Str->Option Value}{aD d0 d1 d2 d3 d4:Addr}(G:tV K mg aD d0 d1 d2 d3 d4)(d:cf) :
  ∃s,KTD.datumAt (wD d) [(("put" : Str),d0),("copy",d1),("add",d2),("read",d3),("tell",d4)]=some s/\KTup K s (kD d):=by
 cases d with
 | put x n=>exact⟨d0,j9,G.q0⟩
 | copy x y=>exact⟨d1,eT (show ¬(("copy" : Str) = "put") by decide +kernel) j9,G.q1⟩
 | add x n=>exact⟨d2,eT (show ¬(("add" : Str) = "put") by decide +kernel) (eT (show ¬(("add" : Str) = "copy") by decide +kernel) j9),G.q2⟩
 | read x=>exact⟨d3,eT (show ¬(("read" : Str) = "put") by decide +kernel) (eT (show ¬(("read" : Str) = "copy") by decide +kernel) (eT (show ¬(("read" : Str) = "add") by decide +kernel) j9)),G.q3⟩
 | tell x=>exact⟨d4,eT (show ¬(("tell" : Str) = "put") by decide +kernel) (eT (show ¬(("tell" : Str) = "copy") by decide +kernel) (eT (show ¬(("tell" : Str) = "add") by decide +kernel) (eT (show ¬(("tell" : Str) = "read") by decide +kernel) j9))),G.q4⟩
theorem Bf (acc ys:List Str):(ys.map (Sum.inr:Str->Key)).foldl LS.putIn (acc.map Sum.inr)=(ys.foldl LS.putIn acc).map Sum.inr:=by
 induction ys generalizing acc with
 | nil=>rfl
 | cons y ys ih =>
  rw [Hh,Iu,Iu,<-ih]
  congr 1
  unfold LS.putIn
  by_cases h:y∈acc
  ·rw [if_pos h,if_pos (G4.mpr ⟨y,h,rfl⟩)]
  ·rw [if_neg h,if_neg (fun z=>by obtain⟨x,hx,e⟩:=G4.mp z;cases e;exact h hx),G3];rfl
theorem x8 (ys:List Str):dW (ys.map (Sum.inr:Str->Key))=(dW ys).map Sum.inr:=Bf [] ys
theorem C6 (ys:List Str):(ys.map (Sum.inr:Str->Key)).map kV=ys.map V.str:=by rw [Ii];rfl
theorem sG {xs:List Str}{m:Nat}{ps:List Piece}(ok:cJ xs m ps):∀x∈bV ps,x∈xs:=fun x hx=>by
 obtain⟨p,hp,hx⟩:=List.mem_flatMap.mp hx
 rcases Hd.mp hx with h | h
 ·obtain⟨d,hd,h⟩:=List.mem_flatMap.mp h
  have dk:=(ok.fk p hp).2 d hd
  cases d with
  | put a n=>rw [GR.mp h];exact dk.1
  | copy a b =>
   rcases GS.mp h with rfl | h
   ·exact dk.1
   ·rw [GR.mp h];exact dk.2
  | add a n=>rw [GR.mp h];exact dk.1
  | read a=>rw [GR.mp h];exact dk
  | tell a=>rw [GR.mp h];exact dk
 ·have ek:=ok.ends p hp
  obtain⟨ds,e⟩:=p
  cases e with
  | stop=>cases h
  | go q=>cases h
  | bu b a n q r=>rw [GR.mp h];exact ek.1
theorem sH {α β : Type}{l:List α}{f:α->List β}{i:Nat}{x:α}(h:l[i]?=some x):(l.take (i+1)).flatMap f=(l.take i).flatMap f++f x:=by
 rw [Hi,h,List.flatMap_append];simp
theorem lG {α β : Type}{l:List α}{f:α->List β}(i:Nat):((l.take i).flatMap f).length<=(l.flatMap f).length:=by
 conv=>rhs;rw [<-List.take_append_drop i l,List.flatMap_append,GW]
 exact HM _ _
def sI:Sp:=fun vs H Q _=>∃(plv:V) (ps:List Piece) (xs:List Str) (m:Nat),vs=[plv]/\aY H plv (dM ps)/\cJ xs m ps/\xs.length<64/\(bV ps).length<=4000 /\
 ∀(t:Addr) (ss:List Str) (H':Hp),H' t=some (.tup (ss.map V.str))->ss.Perm (dW (bV ps))->sortedS ss=true->ss.length<64->ao H H'->Q (.ref t) H'
theorem Bg {xs:List Str}{m:Nat}{ps:List Piece}(ok:cJ xs m ps):(dW (bV ps)).length<=xs.length :=
 sub_len (uO _) fun x hx=>sG ok x (sF.mp hx)
end L2
namespace PySem
theorem tI:typeLookup (.type "tuple") "keys" = pure none:=by rw [typeLookup_type,builtinLookup_eq_fast];kernel_rfl
section
variable {prog:Program}{w:World}{A:Around}{E:Value->Shared->Prop}{s:Shared}
theorem tJ {a:Addr}{xs:Array Value}{k:Nat}{sl:Array (Option Value)}{name:Str}{u:Tok}{Q:Value->Shared->Prop}(hx:s.heap.get? a=some { cls:=.type "tuple",dict:=none,data:=.seq xs k,slots:=sl })
  (miss:typeLookup (.type "tuple") name=pure none) (plain:(["__module__", "__name__", "__qualname__", "__doc__", "__annotations__"]:List Str).contains name=false) (calm:A.handled=none) (fits:name.length+100<=sizeLine)
  (fin:∀g tk e,Heap.NewExcOf s.heap g e "AttributeError" -> E (.ref e) { s with heap:=g,toks:=tk }):wpAny (model prog w) A (getAttrBy (.ref a) (.str name u) false) Q E s:=by
 obtain⟨hp,gs,dr,tk,os⟩:=s
 have hT:∀tk',(⟨hp,gs,dr,tk',os⟩:Shared).TypeIs (.ref a) "tuple" := fun _=>⟨_,hx,rfl⟩
 have f1:=sub_AttributeError
 have f3:=F.slot_tuple_getattribute.lookup
 have f4:=F.slot_tuple_getattribute.bind (.ref a)
 have f5:=am_tuple_getattr_none
 unfold getAttrBy
 repeat (any_goals (first | exact hT _ | assumption | ((with_reducible show wpAny _ _ (call (Value.builtin "tuple.__getattribute__") _ _) _ _ _);refine call_meets F.slot_tuple_getattribute (hT _) am_entry_tuple_getattribute (F.args_tuple_getattribute_2 _ _) (meets_getattribute_miss_tuple a xs k sl name _ miss plain fits) ⟨hx,calm,fun g t e ne=>?_⟩) | wp_step))
 obtain⟨t',u',there⟩:=ne.there
 show wpAny _ _ (getattributeRaised _ _ _ _ _ _ _) _ _ _
 unfold getattributeRaised
 repeat (any_goals (first | wp_step | assumption))
 exact fin g _ e ne.of
theorem pT {a:Addr}{xs:Array Value}{k:Nat}{sl:Array (Option Value)}{Q:Option Value->Shared->Prop}(hx:s.heap.get? a=some { cls:=.type "tuple",dict:=none,data:=.seq xs k,slots:=sl })(calm:A.handled=none)
  (fin:∀g tk,(∀b o,s.heap.get? b=some o->g.get? b=some o)->Q none { s with heap:=g,toks:=tk }):wpAny (model prog w) A (getAttr? (.ref a) "keys") Q E s:=by
 unfold getAttr? getAttrBy?
 refine Jx (wpAny_mkText ?_)
 refine Jx (JI ?_)
 refine tJ (s:={ s with toks:=s.toks+1 }) hx tI (by decide +kernel) calm (by decide +kernel) fun g tk e ne=>?_
 obtain⟨ob,vs,he,hc,_⟩:=ne.there
 have hT:({ s with heap:=g,toks:=tk }:Shared).TypeIs (.ref e) "AttributeError" := ⟨ob,he,hc⟩
 refine Jx (JS hT sub_AttributeError ?_)
 exact Jy (fin g tk ne.keeps)
end
end PySem
namespace PySem
theorem kd:entryFor table "dict.update.loop" = some Builtin.«dict.update.loop»:=entryFor_of_tree (by kernel_rfl)
theorem fX:plainId "dict.update.loop" = true:=by decide +kernel
section
variable {prog:Program}{w:World}{K:Type}[DecidableEq K]{knd:KeyKind prog w K}{A:Around}{s:Shared}
def uR (knd:KeyKind prog w K)(h:Heap)(q:Addr)(p:K×Value):Prop:=∃key n sl,h.get? q=some { cls:=.type "tuple",dict:=none,data:=.seq #[key,p.2] n,slots:=sl }/\knd.is p.1 key=true
theorem tK {E:Value->Shared->Prop}{q:Addr}{x y:Value}{n:Nat}{sl:Array (Option Value)}{Q:List Value->Shared->Prop}(hq:s.heap.get? q=some { cls:=.type "tuple",dict:=none,data:=.seq #[x,y] n,slots:=sl })
  (fin:Q [x,y] s):wpAny (model prog w) A (Builtin.Dict.pairItems (.ref q)) Q E s:=by
 have hT:s.TypeIs (.ref q) "tuple" := ⟨_,hq,rfl⟩
 unfold Builtin.Dict.pairItems
 refine Jx (JP hT ?_)
 rw [if_pos (by decide)]
 unfold seqItems?
 obtain⟨hp,gs,dr,tk,os⟩:=s
 repeat (any_goals (first | wp_step | assumption))
theorem x9 {E:Value->Shared->Prop}{d I ax:Addr}{items:Array Value}{rs:List (K×Value)}{R:Result->Shared->Prop}{h0:Heap}(calm:A.handled=none)(ndI:d≠I)(nda:d≠ax)(nax:ax≠I)(len:rs.length=items.size)(bB:rs.length<=sizeLine)
  (pairs:∀(i:Nat) (p:K×Value),rs[i]?=some p->∃q,items[i]?=some (.ref q)/\q≠d/\q≠I/\uR knd h0 q p)
  (fin:∀(g:Heap) (tk:Nat),g.DictOf knd d (merged [] rs)->(∀b o,b≠d->b≠I->h0.get? b=some o->g.get? b=some o)->R (.ok (.ret .none)) { s with heap:=g,toks:=tk }) :
  ∀(m i:Nat) (h:Heap) (tk:Nat) (t:Tok),rs.length-i=m->i<=rs.length->h.IsTupleIter I ax i->h.IsTuple ax items->h.DictOf knd d (merged [] (rs.take i))->(∀b o,b≠d->b≠I->h0.get? b=some o->h.get? b=some o) ->
   codeAny (model prog w) A (.builtin "dict.update.loop" ⟨[.ref d,.ref I,.int i t,.none],[]⟩) R { s with heap:=h,toks:=tk }:=by
 have W:=Walks.tuple (prog:=prog) (w:=w) (A:=A.in1) calm I ax nax items
 intro m
 induction m with
 | zero =>
  intro i h tk t em hi it ta dd kp
  have ei:i=rs.length:=by omega
  subst ei
  refine JH kd ?_
  rw [HW fX _]
  show wpAny _ A.in1 (pyNext (.ref I) >>= _) _ _ _
  refine Jx (W.done { s with heap:=h,toks:=tk } _ _ ⟨by rw [<-len];exact it,ta⟩ fun g tk' kg=>?_)
  show wpAny _ A.in1 (Builtin.Dict.addKeywords d [] >>= fun _=>ret Value.none) _ _ _
  refine Jx (Jy ?_)
  refine Jy (fin g tk' ?_ fun b o n1 n2 e=>kg b o (by simpa using n2) (kp b o n1 n2 e))
  rw [Hr] at dd
  obtain⟨ob,es,ep,ho,rest⟩:=dd
  exact⟨ob,es,ep,kg d ob (by simpa using ndI) ho,rest⟩
 | succ m ih =>
  intro i h tk t em hi it ta dd kp
  have hlt:i<rs.length:=by omega
  have hp:rs[i]?=some rs[i]:=by simp [hlt]
  generalize rs[i]=p at hp
  obtain⟨q,hq,nqd,nqI,key,n,sl,hqo,hkey⟩:=pairs i p hp
  refine JH kd ?_
  rw [HW fX _]
  show wpAny _ A.in1 (pyNext (.ref I) >>= _) _ _ _
  refine Jx (W.item i { s with heap:=h,toks:=tk } _ _ (by omega) ⟨it,ta⟩ fun v g tk' hv st kg=>?_)
  rw [hq] at hv
  cases hv
  have kp':∀b o,b≠d->b≠I->h0.get? b=some o->g.get? b=some o:=fun b o n1 n2 e=>kg b o (by simpa using n2) (kp b o n1 n2 e)
  refine Jx (JB (Jx (wpAny_tryCatch (tK (kp' q _ nqd nqI hqo) ?_))))
  have dd':g.DictOf knd d (merged [] (rs.take i)):=by
   obtain⟨ob,es,ep,ho,rest⟩:=dd
   exact⟨ob,es,ep,kg d ob (by simpa using ndI) ho,rest⟩
  refine JB (wpAny_dictSet_pairs hkey dd' (fun g2 dd2 same=>?_) ?_)
  ·refine Jy ⟨plainId_quiet fX _,?_⟩
   rw [<-merged_take_succ [] rs i p hp] at dd2
   have k2:∀b o,b≠d->g.get? b=some o->g2.get? b=some o:=fun b o nb e=>(same.2 b nb).trans e
   refine ih (i+1) g2 _ _ (by omega) hlt ?_ ?_ dd2 fun b o n1 n2 e=>k2 b o n1 (kp' b o n1 n2 e)
   ·exact st.1.at fun o e=>k2 I o ndI.symm e
   ·exact st.2.at fun o e=>k2 ax o nda.symm e
  ·have e:=merged_length_le ([]:List (K×Value)) (rs.take i)
   rw [Hm] at e
   simp only [Ja] at e
   omega
open PySem.Calls in
theorem tL {E:Value->Shared->Prop}{ax:Addr}{items:Array Value}{na:Nat}{sa:Array (Option Value)}{rs:List (K×Value)}{Q:Value->Shared->Prop}(calm:A.handled=none)
  (hx:s.heap.get? ax=some { cls:=.type "tuple",dict:=none,data:=.seq items na,slots:=sa }) (len:rs.length=items.size) (bB:rs.length<=sizeLine)
  (pairs:∀(i:Nat) (p:K×Value),rs[i]?=some p->∃q,items[i]?=some (.ref q)/\uR knd s.heap q p)
  (fin:∀(g:Heap) (tk:Nat),g.DictOf knd s.heap.objs.size (merged [] rs)->(∀b o,s.heap.get? b=some o->g.get? b=some o)->Q (.ref s.heap.objs.size) { s with heap:=g,toks:=tk }) :
  wpAny (model prog w) A (call (.type "dict") [.ref ax]) Q E s:=by
 refine callType_codes (Q₁:=fun ob s1=>ob=.ref s.heap.objs.size/\s1={ s with heap:=s.heap.push { cls:=.type "dict",data:=.dict #[] } }) F.kt_called_dict (F.kt_typeCall_dict_1 _) F.entry_dict_init (kt_code_dict_new _ ⟨rfl,rfl⟩) fun ob s1 e1=>?_
 obtain⟨rfl,rfl⟩:=e1
 have fresh:(s.heap.push { cls:=.type "dict",data:=.dict #[] }).DictOf knd s.heap.objs.size []:=Heap.DictOf.new s.heap
 have hx1:=GV { cls:=.type "dict",data:=.dict #[] } hx
 refine⟨fresh.typeIs,F.args_dict_init_2 _ _,?_⟩
 have hT:({ s with heap:=s.heap.push { cls:=.type "dict",data:=.dict #[] } }:Shared).TypeIs (.ref ax) "tuple" := ⟨_,hx1,rfl⟩
 unfold Builtin.«dict.__init__»
 refine Jx ?_
 unfold Builtin.Dict.selfAndRest
 refine Jx (wpAny_notOrdered_dict fresh.typeIs (Jy ?_))
 show wpAny _ _ (Builtin.Dict.updateFrom "dict.__init__" s.heap.objs.size (.ref ax) [] .none) _ _ _
 unfold Builtin.Dict.updateFrom
 refine Jx (JP hT ?_)
 rw [if_pos (by decide)]
 refine Jx (pT hx1 calm fun g tk kg=>?_)
 rw [if_pos (show (none:Option Value).isNone=true from rfl)]
 refine Jx (JF ?_)
 have hxg:=kg _ _ hx1
 have hta:g.IsTuple ax items:=⟨_,hxg,rfl,na,rfl⟩
 refine Jx (JO hta ?_)
 have dg:g.DictOf knd s.heap.objs.size []:=by
  obtain⟨ob,es,ep,ho,rest⟩:=fresh
  exact⟨ob,es,ep,kg _ _ ho,rest⟩
 have ltd:s.heap.objs.size<g.objs.size:=by
  obtain⟨ob,es,ep,ho,rest⟩:=dg
  exact GU ho
 have lta:ax<g.objs.size:=GU hxg
 have ltx:ax<s.heap.objs.size:=GU hx
 have kg':∀b o,s.heap.get? b=some o->(g.push { cls:=.type "tuple_iterator",data:=.fields #[.ref ax,.int 0 0] }).get? b=some o:=fun b o e=>GV _ (kg b o (GV _ e))
 refine Jy ⟨plainId_quiet fX _,?_⟩
 refine x9 (E:=E) (knd:=knd) (s:=s) (A:=A.in1) (items:=items) (rs:=rs) (h0:=g.push { cls:=.type "tuple_iterator",data:=.fields #[.ref ax,.int 0 0] }) calm (G0 ltd) (HE ltx) (G0 lta) len bB (fun i p hp=>?_) (fun g2 tk2 dd2 k2=>⟨rfl,fin g2 tk2 dd2 fun b o e=>k2 b o (G0 (GU e)) (G0 (Jd (GU e) ltd)) (kg' b o e)⟩) rs.length 0 _ _ _ (Nat.sub_zero _) (Hg _) ⟨_,GX _ rfl,rfl,rfl⟩ (hta.push _) (dg.push _) fun b o _ _ e=>e
 obtain⟨q,hq,key,n,sl,hqo,hkey⟩:=pairs i p hp
 have hql:=GU hqo
 exact⟨q,hq,G0 hql,G0 (Jd hql ltd),key,n,sl,kg' q _ hqo,hkey⟩
end
end PySem
namespace L2
open PySem PySem.Spec PyProof.Rows
theorem Cq:∀(kvs:List (Key×V)) (P:Nat->Key×Value->Prop),(∀(i:Nat) (k:Key) (v:V),kvs[i]?=some (k,v)->∃u,RelV v u/\P i (k,u))->∃rs:List (Key×Value),KV kvs rs/\∀(i:Nat) (p:Key×Value),rs[i]?=some p->P i p
 | [],_,_=>⟨[],.nil,fun i p h=>by simp at h⟩
 | (k,v)::r,P,h=>by
  obtain⟨u,ru,hu⟩:=h 0 k v rfl
  obtain⟨rs,kr,hr⟩:=Cq r (fun i=>P (i+1)) fun i k' v' e=>h (i+1) k' v' (by simpa using e)
  refine⟨(k,u)::rs,.cons ⟨rfl,ru⟩ kr,fun i p e=>?_⟩
  cases i with
  | zero=>cases (G5.inj e);exact hu
  | succ i=>exact hr i p (by simpa using e)
theorem oM:∀{xs:List V} {us:List Value} {j:Nat} {x:V},Vals xs us->xs[j]?=some x->∃u,us[j]?=some u/\RelV x u
 | _,_,_,_,.nil,e=>by simp at e
 | _,_,0,_,.cons r _,e=>by
  cases (G5.inj e)
  exact⟨_,rfl,r⟩
 | _,_,j+1,x,.cons _ t,e=>by
  obtain⟨u,h1,h2⟩:=oM (j:=j) (x:=x) t (by simpa using e)
  exact⟨u,by simpa using h1,h2⟩
section
variable {X:Cx}
theorem fF (hc:X.calm=true):er X (.type "dict") (fun vs H Q=>∃(a:Addr) (xs:List V) (kvs:List (Key×V)),vs=[.ref a]/\H a=some (.tup xs)/\xs.length=kvs.length /\
  (∀(i:Nat) (k:Key) (v:V),kvs[i]?=some (k,v)->∃q,xs[i]?=some (.ref q)/\H q=some (.tup [kV k,v]))/\(kvs.map (·.1)).Nodup/\∀d,H d=none->Q (.ref d) (upd H d (.dK kvs))):=by
 intro pins s GK H vs us Q I r h
 obtain⟨a,xs,kvs,rfl,ha,hl,hp,nd,q⟩:=h
 obtain⟨u,rfl,ru⟩:=vals1 r
 cases (show u=Value.ref a from ru)
 obtain⟨hz,its,rv,⟨c,dct,dat,sl⟩,h1,h2,n,h3,h4⟩:=(show cy X.prog X.w H s.heap a (.tup xs) from I.aW a _ ha)
 dsimp only at h2 h3 h4
 subst h2 h3 h4
 have hil:its.length=kvs.length:=by rw [<-rv.length];exact hl
 obtain⟨rs,rel,prs⟩:=Cq kvs (fun i p=>∃q,its.toArray[i]?=some (.ref q)/\uR (aT X.prog X.w) s.heap q p) fun i k v e=>by
  obtain⟨q,e1,e2⟩:=hp i k v e
  obtain⟨_,its2,rv2,⟨c2,dct2,dat2,sl2⟩,g1,g2,n2,g3,g4⟩:=(show cy X.prog X.w H s.heap q (.tup [kV k,v]) from I.aW q _ e2)
  dsimp only at g2 g3 g4
  subst g2 g3 g4
  obtain⟨key,u2,rfl,rk,ru2⟩:=vals2 rv2
  refine⟨u2,ru2,q,?_,key,n2,sl2,g1,kB rk⟩
  obtain⟨w',hw,rw'⟩:=oM rv e1
  cases (show w' = Value.ref q from rw')
  simpa using hw
 have hkl:kvs.length<=sizeLine:=by rw [<-hl];exact hz
 have ndr:(rs.map (·.1)).Nodup:=by rw [<-rel.keys];exact nd
 refine tL (knd:=aT X.prog X.w) (rs:=rs) (I.ok.hd hc) h1 (by rw [<-rel.length,<-hil];simp) (by rw [<-rel.length];exact hkl) prs fun g tk dd kg=>?_
 rw [merged_nil_of_nodup rs ndr] at dd
 exact⟨.ref s.heap.objs.size,_,I.laid (a:=s.heap.objs.size) (o:=.dK kvs) (t':=tk) kg (GQ _) (mn hkl (beq_eq_false_iff_ne.mpr (Ne.symm (G0 I.big))) rel dd),rfl,q _ (I.aW.fresh (GQ _))⟩
theorem all_range (bs:List Bool):((Hs bs.length).all fun i=>(bs[i]?).getD true)=bs.all id:=by
 rw [IC]
 simp only [HC,Ig]
 constructor
 ·intro h b hb
  obtain⟨i,hi,rfl⟩:=List.getElem_of_mem hb
  have:=h i hi
  simpa [hi] using this
 ·intro h i hi
  have:=h bs[i] (HK hi)
  simpa [hi] using this
theorem jC (hc:X.calm=true):er X (.builtin "all") (fun vs H Q=>∃(p:Addr) (bs:List Bool),vs=[.ref p]/\aU X.K H p (bs.map V.bl)/\Q (.bl (bs.all id)) H):=by
 intro pins s GK H vs us Q I r h
 obtain⟨p,bs,rfl,hS,q⟩:=h
 obtain⟨u,rfl,ru⟩:=vals1 r
 cases (show u=Value.ref p from ru)
 obtain⟨its,rv,pl,hz⟩:=I.list hS
 have hl:=pl.isList
 have hlt:p<s.heap.objs.size:=by
  obtain⟨_,e,_⟩:=hl
  exact GU e
 have hsz:its.toArray.size=bs.length:=by
  have:=rv.length
  simp at this
  simp [this]
 refine call_all_walk (J3 hl ?_)
 refine⟨s.heap.objs.size,[s.heap.objs.size,p],[s.heap.objs.size],its.toArray.size,_,_,fun j=>(bs[j]?).getD true,rfl,Walks.list (A:=X.A.in1) (I.ok.hd hc) _ p (G0 hlt) its.toArray,
  ⟨⟨_,GX _ rfl,rfl,rfl⟩,hl.push _⟩,fun j v t Q' E' hP hQ=>?_,fun g tk hk=>?_⟩
 ·have hj:its[j]?=some v:=by simpa using hP
  have hjl:j<bs.length:=by
   have:=(G7.mp hj).1
   rw [<-rv.length,GO] at this
   exact this
  have hb:bs[j]?=some bs[j]:=by simp [hjl]
  obtain⟨w',hw,rw'⟩:=oM (j:=j) (x:=V.bl bs[j]) rv (by rw [G8,hb];rfl)
  rw [hj] at hw
  cases hw
  cases (show v=Value.bool bs[j] from rw')
  have hQ':Q' ((bs[j]?).getD true) t:=hQ
  rw [hb] at hQ'
  exact JJ hQ'
 ·refine⟨.bl (bs.all id),H,?_,?_,q⟩
  ·refine I.kept (t':=tk) fun b o e=>hk b o (fun hm=>?_) (GV _ e)
   rw [GR.mp hm] at e
   exact Hf _ (GU e)
  ·show _=Value.bool (bs.all id)
   rw [hsz,all_range]
end
def pU (a b:Str):Prop:=a.cps.toList<=b.cps.toList
theorem zx {a b c:Str}(h:pU a b)(g:pU b c):pU a c:=List.le_trans h g
theorem Bh {a b:Str}(h:pU a b)(g:pU b a):a=b:=by
 have e:a.cps.toList=b.cps.toList:=List.le_antisymm h g
 have e2:a.cps=b.cps:=by rw [<-Array.toArray_toList (xs:=a.cps),e,Array.toArray_toList]
 cases a
 cases b
 cases e2
 rfl
theorem sJ:∀(l:List Str) (p:Str),risingS p l=true->(p::l).Pairwise pU
 | [],p,_=>by simp
 | x::r,p,h=>by
  have h':(!ltCps x.cps.toList p.cps.toList&&risingS x r)=true:=h
  rw [Hb,Bool.not_eq_true'] at h'
  have h1:pU p x:=by
   have:=h'.1
   rw [ltCps_eq] at this
   exact of_decide_eq_false this
  have ih:=sJ r x h'.2
  refine Ic.cons (fun y hy=>?_) ih
  rcases GS.mp hy with e | hy
  ·rw [e];exact h1
  ·exact zx h1 ((Ji.mp ih).1 y hy)
theorem mB {l:List Str}(h:sortedS l=true):l.Pairwise pU:=by
 cases l with
 | nil=>exact Ic.nil
 | cons x r=>exact sJ r x h
structure ji (ss:List Str):Prop where
 pw:ss.Pairwise pU
 nd:ss.Nodup
theorem ji.tail {x:Str}{r:List Str}(h:ji (x::r)):ji r:=⟨(Ji.mp h.pw).2,(HQ.mp h.nd).2⟩
theorem ji.unique:∀{l m:List Str},ji l->ji m->(∀x,x∈l↔x∈m)->l=m
 | [],[],_,_,_=>rfl
 | [],b::m,_,_,h=>absurd ((h b).mpr (GZ ..)) (by simp)
 | a::l,[],_,_,h=>absurd ((h a).mp (GZ ..)) (by simp)
 | a::l,b::m,hl,hm,h=>by
  have e:a=b:=by
   rcases GS.mp ((h a).mp (GZ ..)) with e | h1
   ·exact e
   ·rcases GS.mp ((h b).mpr (GZ ..)) with e | h2
    ·exact e.symm
    ·exact Bh ((Ji.mp hl.pw).1 b h2) ((Ji.mp hm.pw).1 a h1)
  subst e
  have na:=(HQ.mp hl.nd).1
  have nb:=(HQ.mp hm.nd).1
  rw [ji.unique hl.tail hm.tail fun x=>⟨fun hx=>?_,fun hx=>?_⟩]
  ·rcases GS.mp ((h x).mp (G1 _ hx)) with e | h1
   ·exact absurd (by rw [<-e];exact hx) na
   ·exact h1
  ·rcases GS.mp ((h x).mpr (G1 _ hx)) with e | h1
   ·exact absurd (by rw [<-e];exact hx) nb
   ·exact h1
theorem ji.filter {l:List Str}(h:ji l)(p:Str->Bool):ji (l.filter p):=⟨h.pw.filter p,h.nd.filter p⟩
abbrev Sx:=Option Int×Option Int
def cE:Sx:=(none,none)
structure hZ (K:GP) (mg:Str->Option Value) (aA:Addr):Prop where
 pM:mg "ALL" = some (.ref aA)
 at_:∃dc n sl,K.lookup aA=some ⟨.type "tuple",dc,.seq #[.none,.none] n,sl⟩
theorem hZ.sq {K:GP}{mg:Str->Option Value}{aA:Addr}(h:hZ K mg aA)(H:Hp):av K H aA [.bC,.bC]:=by
 obtain⟨dc,n,sl,e⟩:=h.at_
 exact .inr ⟨_,#[.none,.none],n,e,rfl,rfl,by decide,.cons rfl (.cons rfl .nil)⟩
def SH (H:Hp)(v:V)(s:Sx):Prop:=∃q,v=.ref q/\H q=some (.tup [vO s.1,vO s.2])
def SV (aA:Addr)(H:Hp)(v:V)(s:Sx):Prop:=SH H v s\/(v=.ref aA/\s=cE)
def dS (s:Sx):PyData:=.tuple [dO s.1,dO s.2]
theorem SH.rd {H:Hp}{v:V}{s:Sx}(h:SH H v s):aY H v (dS s):=by
 obtain⟨q,rfl,e⟩:=h
 exact .tup e (.cons (Es _) (.cons (Es _) .nil))
theorem SH.aK {H H':Hp}{v:V}{s:Sx}(h:SH H v s)(k:∀p xs,H p=some (.tup xs)->H' p=some (.tup xs)):SH H' v s:=by
 obtain⟨q,e,h⟩:=h
 exact⟨q,e,k _ _ h⟩
theorem SV.aK {aA:Addr}{H H':Hp}{v:V}{s:Sx}(h:SV aA H v s)(k:∀p xs,H p=some (.tup xs)->H' p=some (.tup xs)):SV aA H' v s:=h.elim (fun h=>.inl (h.aK k)) .inr
theorem SV.sq {K:GP}{mg:Str->Option Value}{aA:Addr}{H:Hp}{v:V}{s:Sx}(g:hZ K mg aA)(h:SV aA H v s):∃q,v=.ref q/\av K H q [vO s.1,vO s.2]:=by
 rcases h with ⟨q,e,h⟩ | ⟨e,rfl⟩
 ·exact⟨q,e,av.of h⟩
 ·exact⟨aA,e,g.sq H⟩
theorem nE {H:Hp}{v:V}{o:Option Int}(h:aY H v (dO o)):v=vO o:=by
 cases o with
 | none=>cases h;rfl
 | some i=>exact h.int_inv
structure Tb (aA:Addr) (H:Hp) (kvs:List (Key×V)) (ks:List Str) (T:Str->Sx):Prop where
 keys:kvs.map (·.1)=ks.map Sum.inr
 nd:ks.Nodup
 val:∀x:Str,(cg kvs (Sum.inr x)=none/\T x=cE/\¬x∈ks)\/(∃v,cg kvs (Sum.inr x)=some v/\SV aA H v (T x)/\x∈ks)
def cm (T:Str->Sx)(x:Str)(s:Sx):Str->Sx:=fun y=>if y=x then s else T y
theorem Tb.aK {aA:Addr}{H H':Hp}{kvs:List (Key×V)}{ks:List Str}{T:Str->Sx}(h:Tb aA H kvs ks T)(k:∀p xs,H p=some (.tup xs)->H' p=some (.tup xs)):Tb aA H' kvs ks T :=
 ⟨h.keys,h.nd,fun x=>(h.val x).elim .inl fun ⟨v,e,s,m⟩=>.inr ⟨v,e,s.aK k,m⟩⟩
theorem Tb.put {aA:Addr}{H:Hp}{kvs:List (Key×V)}{ks:List Str}{T:Str->Sx}(h:Tb aA H kvs ks T){v:V}{s:Sx}(x:Str)(hv:SV aA H v s) :
  ∃ks',Tb aA H (putK kvs (Sum.inr x) v) ks' (cm T x s)/\ks'.length<=ks.length+1/\∀y,y∈ks'↔y∈ks\/y=x:=by
 have vals:∀(ks':List Str),(∀y,y∈ks'↔y∈ks\/y=x)->∀y:Str,(cg (putK kvs (Sum.inr x) v) (Sum.inr y)=none/\cm T x s y=cE/\¬y∈ks')\/(∃u,cg (putK kvs (Sum.inr x) v) (Sum.inr y)=some u/\SV aA H u (cm T x s y)/\y∈ks'):=by
  intro ks' hk y
  rw [uz]
  unfold cm
  by_cases e:y=x
  ·subst e
   rw [if_pos rfl,if_pos rfl]
   exact .inr ⟨v,rfl,hv,(hk y).mpr (.inr rfl)⟩
  ·rw [if_neg (fun z=>e (Sum.inr.inj z)),if_neg e]
   rcases h.val y with ⟨a,b,c⟩ | ⟨u,a,b,c⟩
   ·exact .inl ⟨a,b,fun z=>((hk y).mp z).elim c e⟩
   ·exact .inr ⟨u,a,b,(hk y).mpr (.inl c)⟩
 rcases zc (kvs:=kvs) (k:=(Sum.inr x:Key)) (v:=v) with ⟨e1,hm⟩ | ⟨e1,hn⟩
 ·have hx:x∈ks:=by
   rw [h.keys] at hm
   obtain⟨y,hy,e⟩:=G4.mp hm
   cases e
   exact hy
  have hk:∀y,y∈ks↔y∈ks\/y=x:=fun y=>⟨.inl,fun z=>z.elim id fun e=>by rw [e];exact hx⟩
  exact⟨ks,⟨by rw [e1];exact h.keys,h.nd,vals ks hk⟩,HP _,hk⟩
 ·have hx:¬x∈ks:=fun z=>hn (by rw [h.keys];exact G4.mpr ⟨x,z,rfl⟩)
  have hk:∀y,y∈ks++[x]↔y∈ks\/y=x:=fun y=>by simp
  refine⟨ks++[x],⟨by rw [e1,h.keys,G3];rfl,?_,vals _ hk⟩,by simp,hk⟩
  rw [Ij]
  refine⟨h.nd,by simp,fun a ha b hb=>?_⟩
  rw [GR] at hb
  subst hb
  exact fun z=>hx (by rw [<-z];exact ha)
def dF (T:Str->Sx)(x:Str):PyData:=.tuple [.str x,dS (T x)]
def FV (H:Hp)(v:V)(T:Str->Sx):Prop:=∃(p:Addr) (xs:List V) (ss:List Str),v=.ref p/\H p=some (.tup xs)/\ji ss/\(∀x,x∈ss↔T x≠cE)/\aX H xs (ss.map (dF T))
def fL (T:Str->Sx)(ss:List Str):PyData:=.tuple (ss.map (dF T))
theorem gM (T:Str->Sx):∀ss:List Str,cM (ss.map (dF T))=true
 | []=>rfl
 | x::ss=>by
  show (cL (dF T x)&&cM (ss.map (dF T)))=true
  rw [gM T ss]
  show ((true&&((cL (dO (T x).1)&&(cL (dO (T x).2)&&true))&&true))&&true)=true
  cases (T x).1 <;> cases (T x).2 <;> rfl
theorem FV.aK {H H':Hp}{v:V}{T:Str->Sx}(h:FV H v T)(k:∀p xs,H p=some (.tup xs)->H' p=some (.tup xs)):FV H' v T:=by
 obtain⟨p,xs,ss,e,hp,hs,hm,r⟩:=h
 exact⟨p,xs,ss,e,k _ _ hp,hs,hm,r.aK k (gM T ss)⟩
theorem FV.same {H H':Hp}{v:V}{T:Str->Sx}(h:FV H v T)(s:ao H H'):FV H' v T:=h.aK fun p xs e=>s _ _ e
theorem FV.tb {H:Hp}{xs:List V}{T:Str->Sx}{ss:List Str}(aA:Addr)(hs:ji ss)(hm:∀x,x∈ss↔T x≠cE)(r:aX H xs (ss.map (dF T))) :
  ∃kvs:List (Key×V),xs.length=kvs.length/\(∀(i:Nat) (k:Key) (v:V),kvs[i]?=some (k,v)->∃q,xs[i]?=some (.ref q)/\H q=some (.tup [kV k,v]))/\(kvs.map (·.1)).Nodup/\Tb aA H kvs ss T:=by
 have go:∀(ss:List Str) (xs:List V),aX H xs (ss.map (dF T))->∃kvs:List (Key×V),xs.length=kvs.length/\(∀(i:Nat) (k:Key) (v:V),kvs[i]?=some (k,v)->∃q,xs[i]?=some (.ref q)/\H q=some (.tup [kV k,v])) /\
   kvs.map (·.1)=ss.map Sum.inr/\∀x:Str,(cg kvs (Sum.inr x)=none/\¬x∈ss)\/(∃v,cg kvs (Sum.inr x)=some v/\SH H v (T x)/\x∈ss):=by
  intro ss
  induction ss with
  | nil =>
   intro xs r
   have z:=aX.nil_inv r
   subst z
   exact⟨[],rfl,fun i k v e=>by simp at e,rfl,fun x=>.inl ⟨rfl,by simp⟩⟩
  | cons y ss ih =>
   intro xs r
   obtain⟨x1,t1,rfl,h1,r⟩:=aX.cons_inv r
   obtain⟨kvs,l1,l2,l3,l4⟩:=ih t1 r
   obtain⟨q,zs,rfl,hq,rz⟩:=aY.bZ h1
   obtain⟨z1,t2,rfl,g1,rz⟩:=rz.cons_inv
   obtain⟨z2,t3,rfl,g2,rz⟩:=rz.cons_inv
   have z:=rz.nil_inv
   subst z
   obtain⟨q2,ws,rfl,hq2,rw2⟩:=aY.bZ g2
   obtain⟨w1,t4,rfl,f1,rw2⟩:=rw2.cons_inv
   obtain⟨w2,t5,rfl,f2,rw2⟩:=rw2.cons_inv
   have z:=rw2.nil_inv
   subst z
   have e1:w1=vO (T y).1:=nE f1
   have e2:w2=vO (T y).2:=nE f2
   subst e1 e2
   rw [g1.str_inv] at hq
   refine⟨(Sum.inr y,.ref q2)::kvs,by simp [l1],fun i k v e=>?_,by simp [l3],fun x=>?_⟩
   ·cases i with
    | zero=>cases (G5.inj e);exact⟨q,rfl,hq⟩
    | succ i =>
     obtain⟨q',a,b⟩:=l2 i k v (by simpa using e)
     exact⟨q',by simpa using a,b⟩
   ·by_cases e:x=y
    ·subst e
     exact .inr ⟨_,dz rfl,⟨q2,rfl,hq2⟩,GZ ..⟩
    ·rw [df (fun z=>e (Sum.inr.inj z).symm)]
     rcases l4 x with ⟨a,b⟩ | ⟨v,a,b,c⟩
     ·exact .inl ⟨a,fun z=>(GS.mp z).elim e b⟩
     ·exact .inr ⟨v,a,b,G1 _ c⟩
 obtain⟨kvs,l1,l2,l3,l4⟩:=go ss xs r
 refine⟨kvs,l1,l2,?_,⟨l3,hs.nd,fun x=>?_⟩⟩
 ·rw [l3]
  exact Ic.map _ (fun a b n z=>n (Sum.inr.inj z)) hs.nd
 ·rcases l4 x with ⟨a,b⟩ | ⟨v,a,b,c⟩
  ·refine .inl ⟨a,?_,b⟩
   exact Classical.byContradiction fun z=>b ((hm x).mpr z)
  ·exact .inr ⟨v,a,.inl b,c⟩
theorem qZ (s:Sx):PyData.eqv (dS s) (.tuple [.none,.none])=decide (s=cE):=by
 obtain⟨a,b⟩:=s
 cases a <;> cases b <;> rfl
theorem ya (s:Sx):(dS s).canLay0=true:=by
 obtain⟨a,b⟩:=s
 cases a <;> cases b <;> rfl
theorem Cr (s:Sx):(dS s).depth<=60:=by
 obtain⟨a,b⟩:=s
 cases a <;> cases b <;> (show (1:Nat)<=60;decide)
section
variable {X:Cx}
theorem zy {pins:List (Addr×Obj)}{GK : St}{H:Hp}{s:Shared}{aA:Addr}(I:Inv X pins GK H s)(g:hZ X.K X.mg aA):∃as,Reads s.heap (.ref aA) (.tuple [.none,.none]) as:=by
 obtain⟨dc,n,sl,e⟩:=g.at_
 exact⟨_,.tuple (I.iK aA _ e) rfl rfl (.cons .none (.cons .none .nil))⟩
theorem EC {aA:Addr}(hu:X.A.units+64<cLine)(g:hZ X.K X.mg aA):dX X (compareOp .NotEq) (fun x y H Q=>∃s,SV aA H x s/\y=.ref aA/\Q (.bl (!decide (s=cE))) H):=by
 intro pins sh GK H x y v u Q I rx ry h
 obtain⟨s,hs,rfl,q⟩:=h
 cases (show u=Value.ref aA from ry)
 obtain⟨bs,rb⟩:=zy I g
 rcases hs with hs | ⟨rfl,rfl⟩
 ·obtain⟨as,ra⟩:=hs.rd.reads I.aW rx
  refine PySem.SeqAt.neOverData X.prog X.w X.A X.xe sh v _ _ _ as bs _ ra rb (ya s) rfl (by have:=Cr s;omega) ⟨.bl _,H,I,?_,q⟩
  show _=Value.bool (!decide (s=cE))
  rw [qZ]
 ·cases (show v=Value.ref aA from rx)
  exact PySem.SeqAt.neOverData X.prog X.w X.A X.xe sh _ _ _ _ bs bs _ rb rb rfl rfl (by show X.A.units+1<cLine;omega) ⟨.bl _,H,I,rfl,q⟩
end
def mC (aA:Addr):Sp:=fun vs H Q _=>∃(d:Addr) (kvs:List (Key×V)) (ks:List Str) (T:Str->Sx),vs=[.ref d]/\H d=some (.dK kvs)/\Tb aA H kvs ks T/\ks.length<64/\∀v H',FV H' v T->ao H H'->Q v H'
def zA (o:Option Int)(n:Int):Option Int:=o.map (· + n)
def zB (s:Sx)(n:Int):Sx:=(zA s.1 n,zA s.2 n)
def ED (T:Str->Sx):cf->Sx
 | .put _ n=>(some n,some n)
 | .copy _ y=>T y
 | .add x n=>zB (T x) n
 | .read _=>cE
 | .tell x=>T x
def q8 (T:Str->Sx)(d:cf):Str->Sx:=cm T (pL d) (ED T d)
def cw (T:Str->Sx):List cf->(Str->Sx):=fun ds=>ds.foldl q8 T
def wU (K:GP):Sp:=fun vs H Q _=>∃(q:Addr) (s:Sx) (n:Int),vs=[.ref q,.int n]/\av K H q [vO s.1,vO s.2]/\∀v H',SH H' v (zB s n)->ao H H'->Q v H'
def pV (aA:Addr):Sp:=fun vs H Q _=>∃(d q:Addr) (kvs:List (Key×V)) (ks:List Str) (T:Str->Sx) (dd:cf),vs=[.ref d,.ref q]/\H d=some (.dK kvs)/\Tb aA H kvs ks T/\H q=some (.tup (jx dd))/\∀v H',SV aA H' v (ED T dd)->ao H H'->Q v H'
def oO:Sp:=fun vs H Q _=>∃(fv:V) (p:Addr) (ws:List V) (ds:List cf) (T:Str->Sx) (m:Nat),vs=[fv,.ref p]/\FV H fv T/\H p=some (.tup ws)/\aX H ws (ds.map bG)/\(∀ss:List Str,(∀x∈ss,T x≠cE)->ss.Nodup->ss.length<=m)/\m+ds.length<64/\∀v H',FV H' v (cw T ds)->ao H H'->Q v H'
theorem pW:bootBuiltins "all" = some (.builtin "all"):=by decide +kernel
theorem Tb.getD {aA:Addr}{H:Hp}{kvs:List (Key×V)}{ks:List Str}{T:Str->Sx}(h:Tb aA H kvs ks T)(x:Str):∃v,(cg kvs (Sum.inr x)).getD (.ref aA)=v/\SV aA H v (T x):=by
 rcases h.val x with ⟨a,b,_⟩ | ⟨v,a,b,_⟩
 ·exact⟨_,by rw [a];rfl,.inr ⟨rfl,b⟩⟩
 ·exact⟨v,by rw [a];rfl,b⟩
theorem zC {H:Hp}{v:V}{T:Str->Sx}{y:Str}(h:aY H v (dF T y)):∃t q,v=.ref t/\H t=some (.tup [.str y,.ref q])/\H q=some (.tup [vO (T y).1,vO (T y).2]):=by
 obtain⟨t,zs,rfl,ht,rz⟩:=aY.bZ h
 obtain⟨z1,t2,rfl,g1,rz⟩:=rz.cons_inv
 obtain⟨z2,t3,rfl,g2,rz⟩:=rz.cons_inv
 have z:=rz.nil_inv
 subst z
 obtain⟨q2,ws,rfl,hq2,rw2⟩:=aY.bZ g2
 obtain⟨w1,t4,rfl,f1,rw2⟩:=rw2.cons_inv
 obtain⟨w2,t5,rfl,f2,rw2⟩:=rw2.cons_inv
 have z:=rw2.nil_inv
 subst z
 rw [g1.str_inv] at ht
 rw [nE f1,nE f2] at hq2
 exact⟨t,q2,rfl,ht,hq2⟩
section
variable {C D:Addr}{H0 H H1:Hp}{w0 w1:WA}{plv:V}{x0 x1 x':Ex}
end
mutual
def eF:PyData->Bool
 | .none=>true
 | .int _=>true
 | .str _=>true
 | .tuple xs=>dm xs
 | _=>false
def dm:List PyData->Bool
 | []=>true
 | x::xs=>eF x&&dm xs
end
mutual
def tW:PyData->Nat
 | .tuple xs=>mD xs+1
 | _=>1
def mD:List PyData->Nat
 | []=>0
 | x::xs=>tW x+mD xs
end
noncomputable instance ES:DecidableEq PyData:=fun a b=>Classical.propDecidable (a=b)
mutual
theorem q9:∀{a b:PyData},eF a=true->eF b=true->(PyData.eqv a b=true↔a=b)
 | .none,.none,_,_=>⟨fun _=>rfl,fun _=>rfl⟩
 | .int i,.int j,_,_=>by show ((i == j)=true)↔_;rw [beq_iff_eq];exact⟨fun h=>by rw [h],fun h=>by injection h⟩
 | .str x,.str y,_,_=>by show ((x == y)=true)↔_;rw [beq_iff_eq];exact⟨fun h=>by rw [h],fun h=>by injection h⟩
 | .tuple xs,.tuple ys,ha,hb=>by
  show (PyData.eqvAll xs ys=true)↔_
  rw [pX (show dm xs=true from ha) (show dm ys=true from hb)]
  exact⟨fun h=>by rw [h],fun h=>by injection h⟩
 | .none,.int _,_,_ | .none,.str _,_,_ | .none,.tuple _,_,_ | .int _,.none,_,_ | .int _,.str _,_,_ | .int _,.tuple _,_,_
 | .str _,.none,_,_ | .str _,.int _,_,_ | .str _,.tuple _,_,_ | .tuple _,.none,_,_ | .tuple _,.int _,_,_ | .tuple _,.str _,_,_=>⟨fun h=>(by cases h),fun h=>(by cases h)⟩
 | .bool _,_,h,_ | .list _,_,h,_ | .dict _,_,h,_=>by cases h
 | .none,.bool _,_,h | .none,.list _,_,h | .none,.dict _,_,h | .int _,.bool _,_,h | .int _,.list _,_,h | .int _,.dict _,_,h
 | .str _,.bool _,_,h | .str _,.list _,_,h | .str _,.dict _,_,h | .tuple _,.bool _,_,h | .tuple _,.list _,_,h | .tuple _,.dict _,_,h=>by cases h
theorem pX:∀{a b:List PyData},dm a=true->dm b=true->(PyData.eqvAll a b=true↔a=b)
 | [],[],_,_=>⟨fun _=>rfl,fun _=>rfl⟩
 | x::xs,y::ys,ha,hb=>by
  have ha:(eF x&&dm xs)=true:=ha
  have hb:(eF y&&dm ys)=true:=hb
  rw [Hb] at ha hb
  show ((PyData.eqv x y&&PyData.eqvAll xs ys)=true)↔_
  rw [Hb,q9 ha.1 hb.1,pX ha.2 hb.2]
  exact⟨fun ⟨h1,h2⟩=>by rw [h1,h2],fun h=>by injection h with h1 h2;exact⟨h1,h2⟩⟩
 | [],_::_,_,_ | _::_,[],_,_=>⟨fun h=>(by cases h),fun h=>(by cases h)⟩
end
mutual
theorem sL {h:Heap}:∀{v:Value} {a b:PyData} {as bs:List Addr},Reads h v a as->Reads h v b bs->eF a=true->eF b=true->a=b
 | _,_,_,_,_,.none,.none,_,_=>rfl
 | _,_,_,_,_,.int i t,.int _ _,_,_=>rfl
 | _,_,_,_,_,.str x t,.str _ _,_,_=>rfl
 | _,_,_,_,_,.tuple e1 c1 d1 r1,.tuple e2 c2 d2 r2,ha,hb=>by
  rw [e1] at e2
  cases e2
  rw [d1] at d2
  cases d2
  rw [mE r1 r2 ha hb]
 | _,_,_,_,_,.tuple e1 c1 d1 r1,.list e2 c2 d2 r2,_,hb=>by cases hb
 | _,_,_,_,_,.tuple e1 c1 d1 r1,.dict e2 c2 d2 r2 r3,_,hb=>by cases hb
 | _,_,_,_,_,.bool _,_,ha,_=>by cases ha
 | _,_,_,_,_,.list ..,_,ha,_=>by cases ha
 | _,_,_,_,_,.dict ..,_,ha,_=>by cases ha
theorem mE {h:Heap}:∀{vs:List Value} {a b:List PyData} {as bs:List Addr},ReadsAll h vs a as->ReadsAll h vs b bs->dm a=true->dm b=true->a=b
 | _,_,_,_,_,.nil,.nil,_,_=>rfl
 | _,_,_,_,_,.cons (d:=x) (ds:=xs) r1 t1,.cons (d:=y) (ds:=ys) r2 t2,ha,hb=>by
  have ha:(eF x&&dm xs)=true:=ha
  have hb:(eF y&&dm ys)=true:=hb
  rw [Hb] at ha hb
  rw [sL r1 r2 ha.1 hb.1,mE t1 t2 ha.2 hb.2]
end
mutual
theorem pY {h h':Heap}(k:∀a o n vs,h.get? a=some o->o.data=.seq vs n->h'.get? a=some o):∀{v:Value} {a:PyData} {as:List Addr},Reads h v a as->eF a=true->Reads h' v a as
 | _,_,_,.none,_=>.none
 | _,_,_,.int i t,_=>.int i t
 | _,_,_,.str x t,_=>.str x t
 | _,_,_,.tuple e1 c1 d1 r1,ha=>.tuple (k _ _ _ _ e1 d1) c1 d1 (lH k r1 ha)
 | _,_,_,.bool _,ha=>by cases ha
 | _,_,_,.list ..,ha=>by cases ha
 | _,_,_,.dict ..,ha=>by cases ha
theorem lH {h h':Heap}(k:∀a o n vs,h.get? a=some o->o.data=.seq vs n->h'.get? a=some o):∀{vs:List Value} {a:List PyData} {as:List Addr},ReadsAll h vs a as->dm a=true->ReadsAll h' vs a as
 | _,_,_,.nil,_=>.nil
 | _,_,_,.cons (d:=x) (ds:=xs) r1 t1,ha=>by
  have ha:(eF x&&dm xs)=true:=ha
  rw [Hb] at ha
  exact .cons (pY k r1 ha.1) (lH k t1 ha.2)
end
section
variable {prog:Program}{w:World}{E:Value->Shared->Prop}
abbrev Cs (w:World)(d:PyData):Int:=PySem.W.hashW w.params (PySem.W.ofPy d)
mutual
theorem pZ:∀(d:PyData) (v:Value) (as:List Addr) (A:Around) (s:Shared) (Q:Int->Shared->Prop),eF d=true->Reads s.heap v d as->A.units+d.depth<cLine ->
  Q (Cs w d) { s with toks:=s.toks+tW d }->wpAny (model prog w) A (pyHash v) Q E s
 | .none,_,_,A,s,Q,_,x,hu,h=>by
  cases x
  exact PySem.W.pyHash_slot (T := "NoneType") rfl F.slot_NoneType_hash F.entry_NoneType_hash (F.args_NoneType_hash_1 _) (beq_builtin_none _) (.inr (by omega)) (Jx (Jy (Jx (wpAny_mkInt (Jy ⟨_,_,rfl,h⟩)))))
 | .int i,_,_,A,s,Q,_,x,_,h=>by
  cases x
  refine wpAny_pyHash_int ?_
  have e:=PySem.W.hashW_int w.params i
  rw [<-e]
  exact h
 | .str y,_,_,A,s,Q,_,x,_,h=>by cases x;exact J2 h
 | .tuple xs,_,_,A,s,Q,hk,x,hu,h=>by
  cases x with
  | @tuple a o vs n _ _ hg hc hd hw =>
   refine PySem.W.pyHash_slot (T := "tuple") ⟨_,hg,hc⟩ F.slot_tuple_hash F.entry_tuple_hash (F.args_tuple_hash_1 _) (beq_builtin_none _) (.inr (by omega)) ?_
   show wpAny _ _ (Builtin.Tuple.tupleItemsOf (.ref a) >>= _) _ _ s
   refine Jx (wpAny_tupleItemsOf hg hd ?_)
   refine Jx ?_
   rw [<-Array.forIn_toList]
   refine sM xs vs.toList _ A.in1 s #[] _ hk hw (by have:(PyData.tuple xs).depth=PyData.depthAll xs+1:=rfl;rw [Around.in1_units];omega) fun b hb=>?_
   show wpAny _ _ (retInt (Builtin.Tuple.tupleHashOf b.toList)) _ _ _
   rw [hb]
   exact Jx (wpAny_mkInt (Jy ⟨_,_,rfl,h⟩))
 | .bool _,_,_,_,_,_,hk,_,_,_ | .list _,_,_,_,_,_,hk,_,_,_ | .dict _,_,_,_,_,_,hk,_,_,_=>by cases hk
theorem sM:∀(xs:List PyData) (vs:List Value) (as:List Addr) (A:Around) (s:Shared) (b:Array Int) (Q:Array Int->Shared->Prop),dm xs=true->ReadsAll s.heap vs xs as->A.units+PyData.depthAll xs<cLine ->
  (∀b',b'.toList=b.toList++PySem.W.hashesW w.params (PySem.W.ofPys xs)->Q b' { s with toks:=s.toks+mD xs }) ->
  wpAny (model prog w) A (forIn vs b fun x r=>do let h <-pyHash x;pure PUnit.unit;pure (ForInStep.yield (r.push h))) Q E s
 | [],_,_,A,s,b,Q,_,x,_,h=>by cases x;exact Jy (h b (by simp [PySem.W.hashesW,PySem.W.ofPys]))
 | k::xs,_,_,A,s,b,Q,hk,x,hu,h=>by
  cases x with
  | cons x1 x2 =>
   have hk:(eF k&&dm xs)=true:=hk
   rw [Hb] at hk
   have hu:A.units+max k.depth (PyData.depthAll xs)<cLine:=hu
   rw [HS]
   refine Jx (Jx (pZ k _ _ A s _ hk.1 x1 (by omega) ?_))
   refine Jx (Jy (Jy ?_))
   refine sM xs _ _ A _ _ Q hk.2 x2 (by omega) fun b' hb=>?_
   have h2:=h b' (by simp [hb,PySem.W.hashesW,PySem.W.ofPys])
   have e:mD (k::xs)=tW k+mD xs:=rfl
   rw [e,<-Nat.add_assoc] at h2
   exact h2
end
mutual
theorem sN:∀(d:PyData) (v:Value) (as:List Addr) (A:Around) (s:Shared) (n:Nat) (Q:Bool->Shared->Prop),eF d=true->Reads s.heap v d as->d.depth<=n->Q true s->wpAny (model prog w) A (eqIsQuiet n v) Q E s
 | .none,_,_,A,s,n,Q,_,x,_,h=>by cases x;unfold eqIsQuiet;exact Jy h
 | .int i,_,_,A,s,n,Q,_,x,_,h=>by cases x;unfold eqIsQuiet;exact Jy h
 | .str y,_,_,A,s,n,Q,_,x,_,h=>by cases x;unfold eqIsQuiet;exact Jy h
 | .tuple xs,_,_,A,s,n,Q,hk,x,hn,h=>by
  cases x with
  | @tuple a o vs n' _ _ hg hc hd hw =>
   have hn:PyData.depthAll xs+1<=n:=hn
   obtain⟨n,rfl⟩:∃m,n=m+1:=⟨n-1,by omega⟩
   have hT:s.TypeIs (.ref a) "tuple" := ⟨_,hg,hc⟩
   unfold eqIsQuiet
   refine Jx (wpAny_specialOf hT F.slot_tuple_eq.lookup ?_)
   show wpAny _ _ (isInstance (.ref a) (.type "tuple") >>= _) _ _ s
   refine Jx (JS hT isSubtype_tuple_tuple ?_)
   simp only [Bool.not_true,Ie,if_false]
   refine Jx (JD hg hd ?_)
   refine Jx ?_
   show wpAny _ _ (forIn vs _ _) _ _ s
   rw [<-Array.forIn_toList]
   have hall:=sO xs vs.toList _ A s n hk hw (by omega)
   refine wpAny_forIn_list _ (fun rest r s'=>r.1=none/\s' = s/\∀v∈rest,∀Q:Bool->Shared->Prop,Q true s->wpAny (model prog w) A (eqIsQuiet n v) Q E s) _ ?_ ?_ _ _ ⟨rfl,rfl,hall⟩
   ·rintro v rest r s' ⟨hr,rfl,hq⟩
    refine Jx (hq v GZ _ ?_)
    simp only [Bool.not_true,Ie,if_false]
    exact Jy ⟨rfl,rfl,fun u hu'=>hq u (G1 _ hu')⟩
   ·rintro⟨r1,r2⟩ s' ⟨hr,rfl,_⟩
    simp only at hr
    subst hr
    exact Jy h
 | .bool _,_,_,_,_,_,_,hk,_,_,_ | .list _,_,_,_,_,_,_,hk,_,_,_ | .dict _,_,_,_,_,_,_,hk,_,_,_=>by cases hk
theorem sO:∀(xs:List PyData) (vs:List Value) (as:List Addr) (A:Around) (s:Shared) (n:Nat),dm xs=true->ReadsAll s.heap vs xs as->PyData.depthAll xs<=n->∀v∈vs,∀Q:Bool->Shared->Prop,Q true s->wpAny (model prog w) A (eqIsQuiet n v) Q E s
 | [],_,_,A,s,n,_,x,_=>by cases x;intro v hv;cases hv
 | k::xs,_,_,A,s,n,hk,x,hn=>by
  cases x with
  | cons x1 x2 =>
   have hk:(eF k&&dm xs)=true:=hk
   rw [Hb] at hk
   have hn:max k.depth (PyData.depthAll xs)<=n:=hn
   intro v hv Q h
   rcases GS.mp hv with rfl | hv
   ·exact sN k _ _ A s n Q hk.1 x1 (by omega) h
   ·exact sO xs _ _ A s n hk.2 x2 (by omega) v hv Q h
end
end
structure gN (d:PyData):Prop where
 key:eF d=true
 lay:d.canLay0=true
 dep:d.depth<=7
 tup:∃xs,d=.tuple xs
def jj (prog:Program)(w:World):HeapKind prog w PyData where
 is:=fun h d a=>gN d/\∃as,Reads h (.ref a) d as
 hash:=Cs w
 draws:=tW
 room:=fun A=>A.units+64<cLine
 inj:=fun ⟨h1,_,r1⟩ ⟨h2,_,r2⟩=>sL r1 r2 h1.key h2.key
 keeps:=fun {h h' k a d o es ep} ⟨h1,as,r1⟩ hd he hs=>⟨h1,as,pY (fun b u n vs e1 e2=>by
  have hne:b≠d:=by
   rintro rfl
   rw [hd] at e1
   cases e1
   rw [he] at e2
   cases e2
  exact (hs.2 b hne).trans e1) r1 h1.key⟩
 pyHash:=fun hu ⟨h1,_,r1⟩ h=>pZ _ _ _ _ _ _ h1.key r1 (by have:=h1.dep;omega) h
 eqBool:=fun {A E s x y a b Q} hu ⟨h1,_,r1⟩ ⟨h2,_,r2⟩ h=>by
  refine PySem.SeqAt.eqAt_reads x y A s (.ref a) (.ref b) _ _ r1 r2 h1.lay h2.lay (by have:=h1.dep;have:=h2.dep;omega) prog w E Q ?_
  have e:PyData.eqv x y=decide (x=y):=by
   have:=q9 h1.key h2.key
   by_cases hxy:x=y
   ·rw [decide_eq_true hxy];exact this.mpr hxy
   ·rw [decide_eq_false hxy];exact Jj.mpr fun z=>hxy (this.mp z)
  rw [e]
  exact h
 quiet:=fun ⟨h1,_,r1⟩ h=>sN _ _ _ _ _ _ _ h1.key r1 (by have:=h1.dep;omega) h
abbrev KX (kvs:List (PyData×Addr×V))(xs:List (PyData×Addr×Value)):Prop:=Paired (fun (p:PyData×Addr×V) (q:PyData×Addr×Value)=>p.1=q.1/\p.2.1=q.2.1/\RelV p.2.2 q.2.2) kvs xs
def mF (P:Program)(w:World)(a:Addr)(kvs:List (PyData×Addr×V))(h:Heap):Prop:=(a == sysModules)=false/\kvs.length<=sizeLine /\
 ∃(xs:List (PyData×Addr×Value)) (o:Obj) (es:Array DictEntry) (ep:Nat),h.get? a=some o/\o.ExactDict/\o.data=.dict es ep/\es.toList=xs.map (entryOfKey (jj P w))/\(xs.map (·.1)).Nodup/\KX kvs xs
def fo (P:Program)(w:World)(a:Addr)(kvs:List (PyData×Addr×V)):HO:=.ext (mF P w a kvs)
theorem oP {P:Program}{w:World}{H:Hp}{h:Heap}{a:Addr}{kvs:List (PyData×Addr×V)}(S:mF P w a kvs h):cy P w H h a (fo P w a kvs) :=
 ⟨S,let ⟨_,_,_,o,_,_,e,_⟩:=S;⟨o,e⟩,fun h1 h2 ⟨s1,s2,xs,o,es,ep,e,r⟩ k=>⟨s1,s2,xs,o,es,ep,k o e,r⟩⟩
def Ct (H:Hp)(kvs:List (PyData×Addr×V)):Prop:=∀p∈kvs,gN p.1/\aY H (.ref p.2.1) p.1
noncomputable def fe (kvs:List (PyData×Addr×V)) (d:PyData):Option V:=(kvs.find? fun p=>decide (p.1=d)).map (·.2.2)
noncomputable def putD (kvs:List (PyData×Addr×V)) (d:PyData) (k:Addr) (v:V):List (PyData×Addr×V):=if (fe kvs d).isSome then kvs.map (fun p=>if p.1=d then (p.1,p.2.1,v) else p) else kvs++[(d,k,v)]
theorem KX.val {d:PyData}:∀{kvs:List (PyData×Addr×V)} {xs:List (PyData×Addr×Value)},KX kvs xs->(fe kvs d=none/\atKey xs d=none)\/∃v a u,fe kvs d=some v/\atKey xs d=some (a,u)/\RelV v u
 | _,_,.nil=>.inl ⟨rfl,rfl⟩
 | _,_,.cons (a:=p) (b:=q) (l₁:=kvs) (l₂:=xs) ⟨e1,e2,e3⟩ t=>by
  by_cases h:p.1=d
  ·refine .inr ⟨p.2.2,q.2.1,q.2.2,?_,?_,e3⟩
   ·unfold fe;rw [Jt (by exact decide_eq_true h)];rfl
   ·unfold atKey;rw [Jt (by exact decide_eq_true (e1 ▸ h))];rfl
  ·have h':¬q.1=d:=fun z=>h (e1.trans z)
   have e4:fe (p::kvs) d=fe kvs d:=by unfold fe;rw [Ju (by rw [decide_eq_false h];decide)]
   have e5:atKey (q::xs) d=atKey xs d:=by unfold atKey;rw [Ju (by rw [decide_eq_false h'];decide)]
   rw [e4,e5]
   exact KX.val t
theorem KX.put {d:PyData}{k:Addr}{v:V}{u:Value}(r:RelV v u){kvs:List (PyData×Addr×V)}{xs:List (PyData×Addr×Value)}(h:KX kvs xs):KX (putD kvs d k v) (storedH xs d k u):=by
 have hv:=h.val (d:=d)
 unfold putD storedH
 rcases hv with ⟨h1,h2⟩ | ⟨v',a',u',h1,h2,_⟩
 ·rw [h1,h2]
  have app:∀{l:List (PyData×Addr×V)} {m:List (PyData×Addr×Value)},KX l m->KX (l++[(d,k,v)]) (m++[(d,k,u)]):=by
   intro l m q
   induction q with
   | nil=>exact .cons ⟨rfl,rfl,r⟩ .nil
   | cons hq _ ih=>exact .cons hq ih
  exact app h
 ·rw [h1,h2]
  show KX (kvs.map fun p=>if p.1=d then (p.1,p.2.1,v) else p) (xs.map (putAt d u))
  have go:∀{l:List (PyData×Addr×V)} {m:List (PyData×Addr×Value)},KX l m->KX (l.map fun p=>if p.1=d then (p.1,p.2.1,v) else p) (m.map (putAt d u)):=by
   intro l m q
   induction q with
   | nil=>exact .nil
   | @cons p q ps qs hq _ ih =>
    refine .cons ?_ ih
    unfold putAt
    dsimp only
    by_cases e:p.1=d
    ·rw [if_pos e,if_pos (hq.1 ▸ e)]
     exact⟨hq.1,hq.2.1,r⟩
    ·rw [if_neg e,if_neg (fun z=>e (hq.1.trans z))]
     exact hq
  exact go h
theorem Bi (kvs:List (PyData×Addr×V))(d:PyData)(k:Addr)(v:V):(putD kvs d k v).length<=kvs.length+1:=by
 unfold putD
 split
 ·rw [GO];omega
 ·rw [GW];exact GQ _
theorem KX.keys:∀{kvs:List (PyData×Addr×V)} {xs:List (PyData×Addr×Value)},KX kvs xs->∀q∈xs,∃p∈kvs,p.1=q.1/\p.2.1=q.2.1
 | _,_,.nil,q,hq=>nomatch hq
 | _,_,.cons (a:=p) (l₁:=kvs) ⟨e1,e2,_⟩ t,q,hq=>by
  rcases GS.mp hq with rfl | hq
  ·exact⟨p,GZ ..,e1,e2⟩
  ·obtain⟨p',hp',r⟩:=KX.keys t q hq
   exact⟨p',G1 _ hp',r⟩
section
variable {X:Cx}{pins:List (Addr×Obj)}{GK : St}{H:Hp}{s:Shared}{a k:Addr}{kvs:List (PyData×Addr×V)}{d:PyData}
theorem key_is (I:Inv X pins GK H s)(hk:gN d)(r:aY H (.ref k) d):(jj X.prog X.w).is s.heap d k:=⟨hk,r.reads I.aW rfl⟩
theorem p7 (I:Inv X pins GK H s)(e:H a=some (fo X.prog X.w a kvs))(hk:Ct H kvs):(a == sysModules)=false/\kvs.length<=sizeLine/\∃xs,KX kvs xs/\s.heap.DictOfH (jj X.prog X.w) a xs:=by
 obtain⟨h1,h2,xs,o,es,ep,g1,g2,g3,g4,g5,g6⟩:=(show mF X.prog X.w a kvs s.heap from (I.aW a _ e).1)
 refine⟨h1,h2,xs,g6,o,es,ep,g1,g2,g3,g4,fun x hx=>?_,g5⟩
 obtain⟨p,hp,e1,e2⟩:=g6.keys x hx
 have:=hk p hp
 rw [<-e1,<-e2]
 exact key_is I this.1 this.2
theorem KX.len:∀{kvs:List (PyData×Addr×V)} {xs:List (PyData×Addr×Value)},KX kvs xs->kvs.length=xs.length
 | _,_,.nil=>rfl
 | _,_,.cons _ t=>congrArg (· + 1) (KX.len t)
theorem tX {A:Around}(hu:A.units+66<cLine){P:Program}{w:World}:(jj P w).room A.in1:=by show A.in1.units+64<cLine;rw [Around.in1_units];omega
structure yb (X:Cx) (H:Hp) (a k:Addr) (kvs:List (PyData×Addr×V)) (d:PyData):Prop where
 at_:H a=some (fo X.prog X.w a kvs)
 keys:Ct H kvs
 key:gN d
 rd:aY H (.ref k) d
theorem C7 (hu:X.A.units+66<cLine):dX X (compareOp .In) (fun x y H Q=>∃k a d kvs,x=.ref k/\y=.ref a/\yb X H a k kvs d/\Q (.bl (fe kvs d).isSome) H):=by
 intro pins s GK H x y v u Q I rx ry h
 obtain⟨k,a,d,kvs,rfl,rfl,D,q⟩:=h
 cases rx
 cases ry
 obtain⟨h1,h2,xs,kx,dd⟩:=p7 I D.at_ D.keys
 refine wpAny_in_heap (tX hu) (key_is I D.key D.rd) h1 dd ?_
 have e:(atKey xs d).isSome=(fe kvs d).isSome:=by
  rcases kx.val (d:=d) with ⟨e1,e2⟩ | ⟨_,_,_,e1,e2,_⟩ <;> rw [e1,e2] <;> rfl
 rw [e]
 exact⟨.bl _,H,I.tok _,rfl,q⟩
theorem yc (hu:X.A.units+66<cLine):dX X (compareOp .NotIn) (fun x y H Q=>∃k a d kvs,x=.ref k/\y=.ref a/\yb X H a k kvs d/\Q (.bl (!(fe kvs d).isSome)) H):=by
 intro pins s GK H x y v u Q I rx ry h
 obtain⟨k,a,d,kvs,rfl,rfl,D,q⟩:=h
 cases rx
 cases ry
 obtain⟨h1,h2,xs,kx,dd⟩:=p7 I D.at_ D.keys
 refine wpAny_notIn_heap (tX hu) (key_is I D.key D.rd) h1 dd ?_
 have e:(atKey xs d).isSome=(fe kvs d).isSome:=by
  rcases kx.val (d:=d) with ⟨e1,e2⟩ | ⟨_,_,_,e1,e2,_⟩ <;> rw [e1,e2] <;> rfl
 rw [e]
 exact⟨.bl _,H,I.tok _,rfl,q⟩
theorem C8 {o i:Expr}{pos:Pos}{td ty:TE}(hu:X.A.units+66<cLine)(ho:PE X o td)(hi:PE X i ty)(hs:xP i) :
  PE X (.Subscript o i pos) (fun GK H Q=>td GK H fun x H1=>ty GK H1 fun y H2=>∃k a d kvs v,x=.ref a/\y=.ref k/\yb X H2 a k kvs d/\fe kvs d=some v/\Q v H2):=by
 intro pins s GK H Q I h
 refine qQ PySem.F.slot_dict_getitem.lookup hs (bg (ho pins s GK H _ I h) fun u s1 ⟨x,H1,I1,rx,q1⟩=>bg (hi pins s1 GK H1 _ I1 q1) fun iv s2 ⟨y,H2,I2,ry,k,a,d,kvs,v,ex,ey,D,hv,q2⟩=>?_)
 subst ex ey
 obtain rfl:u=Value.ref a:=rx
 obtain rfl:iv=Value.ref k:=ry
 obtain⟨h1,h2,xs,kx,dd⟩:=p7 I2 D.at_ D.keys
 rcases kx.val (d:=d) with ⟨e1,_⟩ | ⟨v',a',u',e1,e2,e3⟩
 ·rw [e1] at hv;cases hv
 ·rw [e1] at hv
  cases hv
  exact⟨dd.typeIs,wpAny_getItem_heap (tX hu) (key_is I2 D.key D.rd) dd e2 ⟨_,H2,I2.tok _,e3,q2⟩⟩
theorem Bj (hu:X.A.units+66<cLine):Ah X (fun o i v H Q=>∃k a d kvs,o=.ref a/\i=.ref k/\yb X H a k kvs d/\kvs.length<sizeLine/\Q (upd H a (fo X.prog X.w a (putD kvs d k v)))):=by
 intro pins s GK H o i v ov iv u Q I ro ri rv h
 obtain⟨k,a,d,kvs,rfl,rfl,D,hz,q⟩:=h
 cases ro
 cases ri
 obtain⟨h1,h2,xs,kx,dd⟩:=p7 I D.at_ D.keys
 refine wpAny_setItem_heap (tX hu) (key_is I D.key D.rd) dd (fun h' hm' hs'=>?_) (by rw [<-kx.len];exact h2)
 obtain⟨o',es,ep,g1,g2,g3,g4,g5,g6⟩:=id hm'
 refine⟨_,I.write (t':=_) (x:=a) (e:=a) (by rw [D.at_];exact trivial) (.inl rfl) (fun c u' hc hu=>(hs'.2 c hc).trans hu) ⟨o',g1⟩ (oP ⟨h1,?_,storedH xs d k u,o',es,ep,g1,g2,g3,g4,g6,kx.put rv⟩),q⟩
 have:=Bi kvs d k v
 omega
end
open LS
section
variable {X:Cx}
end
def rh (a0 a1:V):List (Str×V):=[("members",a0),("places",a1)]
section
variable {a0 a1 z:V}
theorem gO:(rh a0 a1).lookup ("members" : Str)=some a0:=Et
theorem iC:(rh a0 a1).lookup ("places" : Str)=some a1:=(AN (by decide +kernel) Et)
theorem p8:eC "members" a0 ([]:List (Str×V))=([("members",a0)]:List (Str×V)):=Eu
theorem zD:eC "places" a1 ([("members",a0)]:List (Str×V))=rh a0 a1:=(Gg (by decide +kernel) Eu)
theorem uS:(rh a0 a1).lookup ("place_of" : Str)=none:=(AN (by decide +kernel) (AN (by decide +kernel) rfl))
end
structure uT (K:GP) (C:Addr):Prop where
 cl:lY K C
 members:iz K C "members"
 places:iz K C "places"
abbrev vN (ms:List Nat):List V:=ms.map fun k=>V.int (k:Nat)
def kJ (m d:Addr)(H H':Hp):Prop:=∀c o,H c=some o->c≠m->c≠d->H' c=some o
theorem kJ.refl {m d:Addr}{H:Hp}:kJ m d H H:=fun _ _ h _ _=>h
theorem kJ.of_same {m d:Addr}{H H':Hp}(h:ao H H'):kJ m d H H':=fun c o e _ _=>h c o e
section
variable {C r m d:Addr}{H H':Hp}{ms:List Nat}
end
section
variable (C:Addr)
end
def GJ:Piece->Bool
 | ([],.go _)=>true
 | _=>false
theorem gB {l:List Nat}{n:Nat}(nd:l.Nodup)(h:∀x∈l,x<n):l.length<=n:=by
 have:=sub_len nd (m:=Hs n) fun x hx=>Ig.mpr (h x hx)
 simpa using this
def jD:End->List V
 | .stop=>[.str "stop"]
 | .go _=>[.str "go"]
 | .bu b x n _ _=>[.str (wT b),.str x,.int n]
def Bk:End->List Nat->End
 | .go _,[a]=>.go a
 | .bu b x n _ _,[a,c]=>.bu b x n a c
 | e,_=>e
theorem Bm {e:End}{ns:List Nat}(h:ns.length=(aR e).length):cx (Bk e ns)=jD e++vN ns:=by
 cases e with
 | stop=>match ns,h with | [],_=>rfl
 | go p=>match ns,h with | [a],_=>rfl
 | bu b x n p q=>match ns,h with | [a,c],_=>rfl
theorem zE {H:Hp}{t:Addr}{e:End}(h:H t=some (.tup (cx e))):aY H (.ref t) (eD e):=by
 cases e with
 | stop=>exact .tup h (.cons (.str _) .nil)
 | go p=>exact .tup h (.cons (.str _) (.cons (.int _) .nil))
 | bu b x n p q=>exact .tup h (.cons (.str _) (.cons (.str _) (.cons (.int _) (.cons (.int _) (.cons (.int _) .nil)))))
theorem Bn {ms:List Nat}{k:Nat}(h:ms.Nodup):(LS.putIn ms k).Nodup:=by
 unfold LS.putIn
 split
 ·exact h
 ·next hk =>
  rw [Ij]
  refine⟨h,by simp,fun x hx y hy z=>?_⟩
  rw [GR.mp hy] at z
  exact hk (z ▸ hx)
def mG:Sp:=fun vs H Q _=>∃(ea:Addr) (e:End),vs=[.ref ea]/\H ea=some (.tup (cx e))/\∀t H',H' t=some (.tup (jD e))->ao H H'->Q (.ref t) H'
theorem dC:∀ds:List PyData,(∀d∈ds,d.canLay0=true)->(PyData.tuple ds).canLay0=true
 | [],_=>rfl
 | d::ds,h=>by
  have ih:=dC ds fun x hx=>h x (G1 _ hx)
  show (d.canLay0&&(PyData.tuple ds).canLay0)=true
  rw [h d (GZ ..),ih]
  rfl
theorem ke {m:Nat}:∀ds:List PyData,(∀d∈ds,d.depth<=m)->PyData.depthAll ds<=m
 | [],_=>Hg _
 | d::ds,h=>by
  have ih:=ke ds fun x hx=>h x (G1 _ hx)
  have h1:=h d (GZ ..)
  show max d.depth (PyData.depthAll ds)<=m
  omega
theorem Bo (d:cf):(bG d).depth<=1:=by cases d <;> exact GQ 1
theorem fM {x:Str}(h:eO x):PyData.canLay0 (.str x)=true:=by
 show (x.cps.all fun c=>decide (c<0x110000))=true
 rw [<-Array.all_toList,HC]
 intro c hc
 have:=h.az c hc
 exact decide_eq_true (by omega)
theorem Bp {xs:List Str}(hx:∀x∈xs,eO x){d:cf}(h:fz xs d):(bG d).canLay0=true:=by
 cases d with
 | put x n =>
  refine dC _ fun y hy=>?_
  rcases GS.mp hy with rfl | hy
  ·decide +kernel
  rcases GS.mp hy with rfl | hy
  ·exact fM (hx _ h.1)
  rw [GR.mp hy];rfl
 | copy x z =>
  refine dC _ fun y hy=>?_
  rcases GS.mp hy with rfl | hy
  ·decide +kernel
  rcases GS.mp hy with rfl | hy
  ·exact fM (hx _ h.1)
  rw [GR.mp hy];exact fM (hx _ h.2)
 | add x n =>
  refine dC _ fun y hy=>?_
  rcases GS.mp hy with rfl | hy
  ·decide +kernel
  rcases GS.mp hy with rfl | hy
  ·exact fM (hx _ h.1)
  rw [GR.mp hy];rfl
 | read x =>
  refine dC _ fun y hy=>?_
  rcases GS.mp hy with rfl | hy
  ·decide +kernel
  rw [GR.mp hy];exact fM (hx _ h)
 | tell x =>
  refine dC _ fun y hy=>?_
  rcases GS.mp hy with rfl | hy
  ·decide +kernel
  rw [GR.mp hy];exact fM (hx _ h)
theorem C9 {xs:List Str}(hx:∀x∈xs,eO x){c:Nat}{e:End}(h:jw xs c e):(eD e).canLay0=true:=by
 cases e with
 | stop =>
  refine dC _ fun y hy=>?_
  rw [GR.mp hy];decide +kernel
 | go p =>
  refine dC _ fun y hy=>?_
  rcases GS.mp hy with rfl | hy
  ·decide +kernel
  rw [GR.mp hy];rfl
 | bu b x n p q =>
  refine dC _ fun y hy=>?_
  rcases GS.mp hy with rfl | hy
  ·cases b <;> decide +kernel
  rcases GS.mp hy with rfl | hy
  ·exact fM (hx _ h.1)
  rcases GS.mp hy with rfl | hy
  ·rfl
  rcases GS.mp hy with rfl | hy
  ·rfl
  rw [GR.mp hy];rfl
def mH (ps:List Piece):Prop:=∀p∈ps,(PyData.tuple (p.1.map bG)).canLay0=true/\(eD p.2).canLay0=true
theorem oQ {xs:List Str}(hx:∀x∈xs,eO x){m:Nat}{ps:List Piece}(ok:cJ xs m ps):mH ps:=fun p hp =>
 ⟨dC _ fun d hd=>by obtain⟨x,hx',rfl⟩:=G4.mp hd;exact Bp hx ((ok.fk p hp).2 x hx'),C9 hx (ok.ends p hp)⟩
theorem rm (k:Nat):∀ms:List Nat,sd (.int (k:Nat)) (vN ms)=decide (k∈ms)
 | []=>rfl
 | m::ms=>by
  have ih:=rm k ms
  show ((((m:Nat):Int) == ((k:Nat):Int))||sd (.int (k:Nat)) (vN ms))=_
  rw [ih]
  by_cases e:m=k
  ·subst e;simp
  ·have e':¬(m:Int)=(k:Int):=by omega
   rw [beq_false_of_ne e',Bool.false_or]
   have:k∈m::ms↔k∈ms:=by rw [GS];exact⟨fun h=>h.resolve_left fun z=>e z.symm,.inr⟩
   simp only [this]
theorem wV (ms:List Nat):(vN ms).all il=true:=by rw [HC];intro v hv;obtain⟨k,_,rfl⟩:=G4.mp hv;rfl
theorem zF (ms:List Nat):vN ms=(ms.map fun k:Nat=>(k:Int)).map V.int:=by rw [Ii];rfl
structure NF (X:Cx) (a:Addr):Prop where
 none_:∀o,X.d5.heap.get? a=some o->X.km a=none->a∉X.ex->False
 tup:∀xs,X.km a≠some (.tup xs)
 eU:∀o u,X.km a≠some (.eU o u)
 lQ:∀ps,X.km a≠some (.lQ ps)
section
variable {X:Cx}{pins:List (Addr×Obj)}{GK : L2.St}{H:Hp}{s:Shared}{a:Addr}
theorem Inv.nf {kvs:List (Key×V)}(I:Inv X pins GK H s)(e:H a=some (.dK kvs)):NF X a where
 none_:=fun o h1 h2 h3=>by
  have:=I.base.free a o h1 h2 h3
  rw [e] at this
  cases this
 tup:=fun xs h=>by
  have:=I.base.aK a xs h
  rw [e] at this
  cases this
 eU:=fun o u h=>by
  have:=I.base.iE a o u h
  rw [e] at this
  cases this
 lQ:=fun ps h=>by
  obtain⟨more,this⟩:=I.base.iX a ps h
  rw [e] at this
  cases this
theorem Inv.swap {u u':HO}(I:Inv X pins GK H s)(nf:NF X a)(e:H a=some u)(no:∀y,u≠.own y)(nt:∀xs,u≠.tup xs)(new:cy X.prog X.w (upd H a u') s.heap a u'):Inv X pins GK (upd H a u') s where
 ok:=I.ok
 os:=I.os
 bare:=I.bare
 base:={
  keep:=I.base.keep
  slot:=I.base.slot
  free:=fun b o h1 h2 h3=>by
   by_cases z:b=a
   ·subst z;exact absurd (nf.none_ o h1 h2 h3) id
   ·rw [au z];exact I.base.free b o h1 h2 h3
  there:=I.base.there
  aK:=fun b xs h=>by
   have z:b≠a:=fun z=>by subst z;exact nf.tup xs h
   rw [au z];exact I.base.aK b xs h
  iE:=fun b o v h=>by
   have z:b≠a:=fun z=>by subst z;exact nf.eU o v h
   rw [au z];exact I.base.iE b o v h
  iX:=fun b ps h=>by
   have z:b≠a:=fun z=>by subst z;exact nf.lQ ps h
   rw [au z];exact I.base.iX b ps h }
 loc:=I.loc
 cell:=I.cell
 free:=by rw [au (fun z=>by have:=I.free;rw [z,e] at this;cases this)];exact I.free
 fj:=fun x c h=>by rw [au (fun z=>by have:=I.fj x c h;rw [z,e] at this;cases this)];exact I.fj x c h
 pin:=fun p hp=>by
  obtain⟨h1,h2,h3⟩:=I.pin p hp
  exact⟨h1,by rw [au (fun z=>by rw [z,e] at h2;cases h2)];exact h2,h3⟩
 aW:=fun b o h=>by
  by_cases z:b=a
  ·subst z
   rw [af] at h
   cases h
   exact new
  ·rw [au z] at h
   refine (I.aW b o h).oy (fun _ _ _ q=>q) (fun c q=>?_) fun c xs q=>?_
   ·rw [au (fun y=>by rw [y,e] at q;exact no _ (G5.inj q))];exact q
   ·rw [au (fun y=>by rw [y,e] at q;exact nt _ (G5.inj q))];exact q
 len:=I.len
end
theorem Dc {P:Program}{w:World}{k:Key}{v:Value}(h:(aT P w).is k v=true):RelV (kV k) v:=by
 cases k with
 | inr x=>exact jK h
 | inl i =>
  obtain⟨t,e⟩:=Value.isInt_shape (show Value.isInt i v=true from h)
  exact⟨t,e⟩
def Ft (a:Addr)(kvs:List (Key×V))(ob:Obj):It :=
 ⟨fun i H=>H a=some (.eU ob (.dK kvs))/\i<kvs.length,fun i H x H'=>H' = H/\∃k v,kvs[i]?=some (k,v)/\x=kV k,fun i H=>H a=some (.eU ob (.dK kvs))/\kvs.length<=i⟩
theorem zG {P:Program}{w:World}{K:GP}{tg:Expr}{kvs:List (Key×V)}{vs:List (Key×Value)}{ob:Obj}{ep:Nat}(a it:Addr)(hat:∀h:Heap,h.get? a=some ob->h.DictAt (aT P w) a vs ep)(rel:KV kvs vs) :
  Turn P w K tg (Ft a kvs ob) [it] it (fun i h=>h.IsKeyIter it a i vs.length ep) where
 mem:=by simp
 obj:=fun i h st b hb=>by
  have e:b=it:=by simpa using hb
  subst e
  obtain⟨o,e,c,d⟩:=st
  exact⟨o,e,fun v z=>by rw [d] at z;cases z⟩
 keep:=fun i h h' st k=>st.at fun o e=>k it (by simp) o e
 item:=by
  intro X hP hw hK hc i pins s GK H E I hf st hg
  subst hP hw hK
  obtain⟨ha,hi⟩:=hg
  obtain⟨e0,_⟩:=(show cy X.prog X.w H s.heap a (.eU ob (.dK kvs)) from I.aW a _ ha)
  have hvi:i<vs.length:=by rw [<-rel.length];exact hi
  have hx:vs[i]?=some vs[i]:=by simp [hvi]
  generalize vs[i]=p at hx
  obtain⟨k,u⟩:=p
  obtain⟨v,hkv⟩:∃v,kvs[i]?=some (k,v):=by
   have e1:(vs.map (·.1))[i]?=some k:=by rw [G8,hx];rfl
   rw [<-rel.keys,G8] at e1
   cases e2:kvs[i]? with
   | none=>rw [e2] at e1;cases e1
   | some q =>
    rw [e2] at e1
    obtain⟨k',v⟩:=q
    cases (G5.inj e1)
    exact⟨v,rfl⟩
  obtain⟨f0,f1,f2,f3,f4,f5⟩:=hf it (by simp)
  refine wpAny_pyNext_dict_item st (hat _ e0) hx fun key h' hkey st' sb=>?_
  have I1:Inv X pins GK H { s with heap:=h' }:=I.turned (t':=s.toks) (fun b o hb e=>(sb.2 b hb).trans e) f0 f1 f3 f4 f5
  obtain⟨o,e,c,d⟩:=id st'
  exact⟨key,rfl,tS (s:={ s with heap:=h' }) e c d (by decide) ⟨kV k,H,I1,Dc hkey,⟨rfl,k,v,hkv,rfl⟩,st',fun b hb=>(hf b hb).1⟩⟩
 done:=by
  intro X hP hw hK hc i pins s GK H E I hf st hg
  subst hP hw hK
  obtain⟨ha,hi⟩:=hg
  obtain⟨e0,_⟩:=(show cy X.prog X.w H s.heap a (.eU ob (.dK kvs)) from I.aW a _ ha)
  obtain⟨f0,f1,f2,f3,f4,f5⟩:=hf it (by simp)
  exact wpAny_pyNext_dict_end (I.ok.hd hc) st (hat _ e0) (Iz (by rw [<-rel.length];exact hi)) fun h' eb=>⟨rfl,I.turned (t':=s.toks) (fun b o hb e=>eb b o hb e) f0 f1 f3 f4 f5⟩
 self:=fun _ _ _ _ _ st h=>wpAny_pyIter_keyiter st h
section
variable {X:Cx}
def Fj (i:Nat)(X:Cx):TI:=fun GK H R=>∃v,GK[i]?=some (some v)/\∃a kvs,v=.ref a/\H a=some (.dK kvs)/\∀ob,NF X a->R (Ft a kvs ob) (upd H a (.eU ob (.dK kvs)))
theorem Dd {tg l:Expr}{i:Nat}(hl:PE X l (uc i)):PI X tg l (Fj i X):=by
 intro pins s GK H R I h
 obtain⟨v0,hv0,a,kvs,rfl,ha,q⟩:=h
 refine bg (hl pins s GK H (fun x H1=>x=.ref a/\H1=H) I ⟨_,hv0,rfl,rfl⟩) fun v s1 ⟨x,H1,I1,r1,e1,e2⟩=>?_
 subst e1 e2
 cases r1
 have nf:=I1.nf ha
 obtain⟨z,hd,vs,rel,dd⟩:=pG I1.aW ha
 obtain⟨ep,ob,es,ho,rest⟩:=dd.dictAt
 have I2:Inv X pins GK (upd H1 a (.eU ob (.dK kvs))) s1:=I1.swap nf ha (fun _ h=>nomatch h) (fun _ h=>nomatch h) ⟨ho,mn z hd rel ⟨ob,es,ep,ho,rest⟩⟩
 refine wpAny_pyIter_dict hd ⟨ob,es,ho,rest⟩ ?_
 refine⟨s1.heap.objs.size,[s1.heap.objs.size],_,_,_,rfl,I2.kept (t':=s1.toks) fun b o e=>GV _ e,zG a _ (fun h e=>⟨ob,es,e,rest⟩) rel,⟨_,GX _ rfl,rfl,rfl⟩,fun b hb=>?_,q ob nf⟩
 have e:b=s1.heap.objs.size:=by simpa using hb
 subst e
 exact I2.lT (GQ _) (I2.aW.fresh (GQ _))
def Fl (i:Nat)(g:TG)(tb:TS):TS:=fun D GK H=>∃v,GK[i]?=some (some v)/\∃a kvs,v=.ref a/\H a=some (.dK kvs)/\∀ob,∃Pv:Nat->L2.St->Hp->Prop,Pv 0 GK (upd H a (.eU ob (.dK kvs))) /\
 (∀j GL H2,Pv j GL H2->H2 a=some (.eU ob (.dK kvs))) /\
 (∀j k u GL H2,kvs[j]?=some (k,u)->Pv j GL H2->g (kV k) GL H2 fun τ3 H3=>tb { D with nx:=Pv (j+1),ct:=Pv (j+1),bk:=fun τ4 H4=>∃ob',H4 a=some (.eU ob' (.dK kvs))/\D.nx τ4 (upd H4 a (.dK kvs)),rt:=fun r H4=>∃ob',H4 a=some (.eU ob' (.dK kvs))/\D.rt r (upd H4 a (.dK kvs)) } τ3 H3) /\
 (∀GL H2,Pv kvs.length GL H2->D.nx GL (upd H2 a (.dK kvs)))
theorem EE {pins:List (Addr×Obj)}{GK : L2.St}{H:Hp}{s:Shared}{a:Addr}{ob:Obj}{kvs:List (Key×V)}(I:Inv X pins GK H s)(nf:NF X a)(e:H a=some (.eU ob (.dK kvs))):Inv X pins GK (upd H a (.dK kvs)) s:=by
 obtain⟨z,hd,vs,rel,dd⟩:=ni I.aW (.inr ⟨ob,e⟩)
 exact I.swap nf e (fun _ h=>nomatch h) (fun _ h=>nomatch h) (mn z hd rel dd)
theorem De {tg l:Expr}{body:List Stmt}{i:Nat}{g:TG}{tb:TS}{pos:Pos}(hp:PassesOwn (model X.prog X.w) X.A X.env X.xe)(hc:X.calm=true)(hl:PE X l (uc i))(hg:PG X tg g)(hb:iY X body tb)
  (hs:∀x,foldedSetIterable l X.env x=pure x:=by intro _;rfl):PS X (.For tg l body [] pos) (Fl i g tb):=by
 intro pins s GK H D I h
 obtain⟨v,hv,a,kvs,rfl,ha,h⟩:=h
 have nf:=I.nf ha
 refine bg (eM hp hc (Dd hl) hg hb hs pins s GK H { nx:=fun GL H2=>∃ob,H2 a=some (.eU ob (.dK kvs))/\D.nx GL (upd H2 a (.dK kvs)),rt:=fun r H2=>∃ob,H2 a=some (.eU ob (.dK kvs))/\D.rt r (upd H2 a (.dK kvs)),bk:=D.bk,ct:=D.ct } I ?_) fun f s' q=>?_
 ·refine⟨_,hv,a,kvs,rfl,ha,fun ob _=>?_⟩
  obtain⟨Pv,p0,pf,ps,pe⟩:=h ob
  refine⟨fun j m GL H2=>m=kvs.length-j/\j<=kvs.length/\Pv j GL H2,⟨kvs.length,by simp,Hg _,p0⟩,?_⟩
  rintro j m GL H2 ⟨rfl,hj,p⟩
  by_cases hlt:j<kvs.length
  ·refine .inr ⟨⟨pf j GL H2 p,hlt⟩,Pv (j+1),fun τ' H' p'=>⟨kvs.length-(j+1),by omega,rfl,hlt,p'⟩,fun x H' y=>?_⟩
   obtain⟨e1,k,u,e2,e3⟩:=y
   subst e1 e3
   exact ps j k u GL _ e2 p
  ·have e:j=kvs.length:=by omega
   subst e
   exact .inl ⟨⟨pf _ GL H2 p,GQ _⟩,ob,pf _ GL H2 p,pe GL H2 p⟩
 ·cases f with
  | next =>
   obtain⟨GL,H2,I2,ob,e,q⟩:=q
   exact⟨GL,_,EE I2 nf e,q⟩
  | brk=>exact q
  | cont=>exact q
  | ret u =>
   obtain⟨r,GL,H2,I2,rr,ob,e,q⟩:=q
   exact⟨r,GL,_,EE I2 nf e,rr,q⟩
end
def LT (H:Hp)(d:Addr)(T:Str->Sx)(m:Nat):Prop:=∃kvs ks,H d=some (.dK kvs)/\Tb 0 H kvs ks T/\(∀x∈ks,T x≠cE)/\ks.length<=m
theorem LT.aK {H H':Hp}{d:Addr}{T:Str->Sx}{m:Nat}(h:LT H d T m)(hd:∀o,H d=some o->H' d=some o)(k:∀p xs,H p=some (.tup xs)->H' p=some (.tup xs)):LT H' d T m:=by
 obtain⟨kvs,ks,h1,h2,h3,h4⟩:=h
 exact⟨kvs,ks,hd _ h1,h2.aK k,h3,h4⟩
theorem LT.same {H H':Hp}{d:Addr}{T:Str->Sx}{m:Nat}(h:LT H d T m)(s:ao H H'):LT H' d T m:=h.aK (fun o e=>s _ _ e) fun p xs e=>s _ _ e
theorem LT.get {H:Hp}{T:Str->Sx}{kvs:List (Key×V)}{ks:List Str}{t:Addr}(tb:Tb 0 H kvs ks T)(cl:∀x∈ks,T x≠cE)(ht:H t=some (.tup [.bC,.bC]))(x:Str):∃v,(cg kvs (Sum.inr x)).getD (.ref t)=v/\SH H v (T x):=by
 rcases tb.val x with ⟨a,b,_⟩ | ⟨v,a,b,c⟩
 ·exact⟨_,by rw [a];rfl,t,rfl,by rw [b];exact ht⟩
 ·refine⟨v,by rw [a];rfl,?_⟩
  rcases b with b | ⟨_,b⟩
  ·exact b
  ·exact absurd b (cl x c)
theorem sP {T:Str->Sx}{x:Str}(h:T x=cE):cm T x cE=T:=by
 funext y
 unfold cm
 by_cases e:y=x
 ·rw [if_pos e,e,h]
 ·rw [if_neg e]
theorem zH {T:Str->Sx}{x:Str}{s t:Sx}:cm (cm T x s) x t=cm T x t:=by
 funext y
 unfold cm
 by_cases e:y=x
 ·rw [if_pos e,if_pos e]
 ·rw [if_neg e,if_neg e,if_neg e]
theorem sQ (k j:Key):∀kvs:List (Key×V),cg (eW kvs k) j=if j=k then none else cg kvs j
 | []=>by simp [eW,cg]
 | p::r=>by
  have ih:=sQ k j r
  by_cases e:p.1=k
  ·rw [sx e,ih]
   by_cases z:j=k
   ·rw [if_pos z,if_pos z]
   ·rw [if_neg z,if_neg z,df (p:=p) (fun w:p.1=j=>z (w.symm.trans e))]
  ·rw [sy e]
   by_cases w:p.1=j
   ·rw [dz w,dz w,if_neg (fun z=>e (w.trans z))]
   ·rw [df w,df w,ih]
theorem Tb.drop {aA:Addr}{H:Hp}{kvs:List (Key×V)}{ks:List Str}{T:Str->Sx}(h:Tb aA H kvs ks T)(x:Str):Tb aA H (eW kvs (Sum.inr x)) (ks.filter fun y=>decide (y≠x)) (cm T x cE) where
 keys:=by
  have go:∀(kvs:List (Key×V)) (ks:List Str),kvs.map (·.1)=ks.map Sum.inr->(eW kvs (Sum.inr x)).map (·.1)=(ks.filter fun y=>decide (y≠x)).map Sum.inr:=by
   intro kvs
   induction kvs with
   | nil =>
    intro ks e
    cases ks with
    | nil=>rfl
    | cons a b=>simp at e
   | cons p r ih =>
    intro ks e
    cases ks with
    | nil=>simp at e
    | cons a b =>
     rw [Hh,Hh] at e
     injection e with e1 e2
     by_cases z:a=x
     ·rw [sx (by rw [e1,z]),IP (by simp [z])]
      exact ih b e2
     ·rw [sy (fun w=>z (Sum.inr.inj (e1.symm.trans w))),Jk (by simp [z]),Hh,Hh,ih b e2,e1]
  exact go kvs ks h.keys
 nd:=h.nd.filter _
 val:=fun y=>by
  rw [sQ]
  unfold cm
  by_cases e:y=x
  ·subst e
   rw [if_pos rfl,if_pos rfl]
   exact .inl ⟨rfl,rfl,by simp⟩
  ·rw [if_neg (fun z=>e (Sum.inr.inj z)),if_neg e]
   rcases h.val y with ⟨a,b,c⟩ | ⟨v,a,b,c⟩
   ·exact .inl ⟨a,b,fun z=>c (HD.mp z).1⟩
   ·exact .inr ⟨v,a,b,HD.mpr ⟨c,by simp [e]⟩⟩
theorem zI {kvs:List (Key×V)}{k:Key}{v:V}{j:Nat}(nd:(kvs.map (·.1)).Nodup)(h:kvs[j]?=some (k,v)):putK (kvs.take j) k v=kvs.take (j+1):=by
 have hj:j<kvs.length:=(G7.mp h).1
 have hn:¬k∈(kvs.take j).map (·.1):=fun hm=>by
  have hs:(kvs.take (j+1)).map (·.1)=(kvs.take j).map (·.1)++[k]:=by
   rw [Hi,h,G3];rfl
  have nd2:((kvs.take (j+1)).map (·.1)).Nodup:=by
   rw [List.map_take]
   exact nd.sublist (List.take_sublist _ _)
  rw [hs,Ij] at nd2
  exact nd2.2.2 k hm k (by simp) rfl
 have hv:cg (kvs.take j) k=none:=by
  cases e:cg (kvs.take j) k with
  | none=>rfl
  | some u=>exact absurd (CZ e) hn
 rw [AF _ hv,Hi,h]
 rfl
def rn:Sp:=fun vs H Q _=>∃(d:Addr) (T:Str->Sx),vs=[.ref d]/\LT H d T 63/\∀v H',FV H' v T->ao H H'->Q v H'
def wW:Sp:=fun vs H Q _=>∃(d:Addr) (T:Str->Sx) (m:Nat) (x:Str) (sv:V) (s:Sx),vs=[.ref d,.str x,sv]/\LT H d T m/\m<=60/\SH H sv s/\∀d' H',LT H' d' (cm T x s) (m+1)->ao H H'->Q (.ref d') H'
def Sound (T:Str->Sx)(w:Str->Int):Prop:=∀x,cK (w x) (T x).1 (T x).2=true
theorem Sound.step {T:Str->Sx}{w:Str->Int}(h:Sound T w)(x:Str){n:Int}{s:Sx}(hs:cK n s.1 s.2=true):Sound (cm T x s) (dD w x n):=fun y=>by
 unfold cm dD
 by_cases e:y=x
 ·rw [if_pos e,if_pos e];exact hs
 ·rw [if_neg e,if_neg e];exact h y
theorem sR {w:Str->Int}{x:Str}:dD w x (w x)=w:=by
 funext y
 unfold dD
 by_cases e:y=x
 ·rw [if_pos e,e]
 ·rw [if_neg e]
theorem Df {n k:Int}{s:Sx}(h:cK n s.1 s.2=true):cK (n+k) (zB s k).1 (zB s k).2=true:=by
 obtain⟨a,b⟩:=s
 cases a <;> cases b <;> simp [cK,zB,zA] at h ⊢ <;> omega
theorem Bq {x:Str}(h:eO x):PyData.canLay0 (.str x)=true:=by
 show (x.cps.all fun c=>decide (c<0x110000))=true
 rw [<-Array.all_toList,HC]
 intro c hc
 have:=h.az c hc
 exact decide_eq_true (by omega)
def jM (lo lo2:Option Int):Bool:=match lo2,lo with
 | none,_=>true
 | some _,none=>false
 | some a,some b=>decide (a<=b)
def iq (hi hi2:Option Int):Bool:=match hi2,hi with
 | none,_=>true
 | some _,none=>false
 | some a,some b=>decide (b<=a)
def jE (s t:Sx):Bool:=jM s.1 t.1&&iq s.2 t.2
def gP (T:Str->Sx)(m:Nat):Prop:=∀ss:List Str,(∀x∈ss,T x≠cE)->ss.Nodup->ss.length<=m
def wX (aA:Addr):Sp:=fun vs H Q _=>∃(fv:V) (x:Str) (T:Str->Sx),vs=[fv,.str x]/\FV H fv T/\∀v H',SV aA H' v (T x)->ao H H'->Q v H'
def nZ (aA:Addr):Sp:=fun vs H Q _=>∃(fv sv:V) (x:Str) (T:Str->Sx) (s:Sx),vs=[fv,.str x,sv]/\FV H fv T/\SV aA H sv s/\gP T 62/\∀v H',FV H' v (cm T x s)->ao H H'->Q v H'
def sS (K:GP):Sp:=fun vs H Q _=>∃(p q:Addr) (s t:Sx),vs=[.ref p,.ref q]/\av K H p [vO s.1,vO s.2]/\av K H q [vO t.1,vO t.2]/\Q (.bl (jE s t)) H
def uU:Sp:=fun vs H Q _=>∃(fv:V) (d:Addr) (kvs:List (Key×V)) (w:Str->Int) (T:Str->Sx),vs=[fv,.ref d]/\FV H fv T/\H d=some (.dK kvs)/\DW kvs w/\gP T 63/\∀b H',(b=true↔Sound T w)->ao H H'->Q (.bl b) H'
def uV:Sp:=fun vs H Q _=>∃(fv gv:V) (T U:Str->Sx),vs=[fv,gv]/\FV H fv T/\FV H gv U/\gP T 63/\∀b H',(b=true↔∀x,jE (U x) (T x)=true)->ao H H'->Q (.bl b) H'
theorem zJ {T:Str->Sx}{w:Str->Int}{ss:List Str}(hm:∀x,x∈ss↔T x≠cE):(ss.map fun x=>cK (w x) (T x).1 (T x).2).all id=true↔Sound T w:=by
 rw [HC]
 constructor
 ·intro h x
  by_cases e:T x=cE
  ·rw [e];rfl
  ·exact h _ (G4.mpr ⟨x,(hm x).mpr e,rfl⟩)
 ·intro h b hb
  obtain⟨x,_,rfl⟩:=G4.mp hb
  exact h x
theorem rp (s:Sx):jE s cE=true:=by
 obtain⟨a,b⟩:=s
 cases a <;> cases b <;> rfl
theorem zK {T U:Str->Sx}{ss:List Str}(hm:∀x,x∈ss↔T x≠cE):(ss.map fun x=>jE (U x) (T x)).all id=true↔∀x,jE (U x) (T x)=true:=by
 rw [HC]
 constructor
 ·intro h x
  by_cases e:T x=cE
  ·rw [e];exact rp _
  ·exact h _ (G4.mpr ⟨x,(hm x).mpr e,rfl⟩)
 ·intro h b hb
  obtain⟨x,_,rfl⟩:=G4.mp hb
  exact h x
section
variable {X:Cx}
end
theorem Br (s:Sx):jE s s=true:=by
 obtain⟨a,b⟩:=s
 cases a <;> cases b <;> simp [jE,jM,iq]
theorem LT.EF {H:Hp}{d b:Addr}{T:Str->Sx}{m:Nat}(h:LT H d T m)(B:bU H b):d≠b:=by
 obtain⟨kvs,ks,g1,_⟩:=h
 obtain⟨x,y,e,_⟩:=B
 exact bN g1 e (by intro z;cases z)
theorem LT.fix {H H':Hp}{d b:Addr}{T:Str->Sx}{m:Nat}(h:LT H d T m)(B:bU H b)(X:Fix b H H'):LT H' d T m :=
 h.aK (fun o e=>X d o e (h.EF B)) fun p zs e=>X p _ e (B.bI e)
theorem LT.up {H:Hp}{d:Addr}{T:Str->Sx}{m n:Nat}(h:LT H d T m)(le:m<=n):LT H d T n:=by
 obtain⟨kvs,ks,g1,g2,g3,g4⟩:=h
 exact⟨kvs,ks,g1,g2,g3,GY g4 le⟩
def rA (K:GP):Sp:=fun vs H Q _=>∃(n:Int) (q:Addr) (lo hi:Option Int),vs=[.int n,.ref q]/\av K H q [vO lo,vO hi]/\Q (.bl (cK n lo hi)) H
def mI (K:GP)(F:Option Int->Option Int->Int->Rs):Sp:=fun vs H Q _=>∃(p:Addr) (n:Int) (lo hi:Option Int),vs=[.ref p,.int n]/\av K H p [vO lo,vO hi]/\∀v H',RV H' v (F lo hi n)->ao H H'->Q v H'
def wY (K:GP):Sp:=fun vs H Q _=>∃(p:Addr) (w:Str) (n:Int) (side:Bool) (lo hi:Option Int),vs=[.ref p,.str w,.int n,.bl side]/\av K H p [vO lo,vO hi]/\∀v H',RV H' v (fE w lo hi n side)->ao H H'->Q v H'
def dJ (T:Str->Sx)(b:Bool)(x:Str)(n:Int)(side:Bool):Rs:=fE (wT b) (T x).1 (T x).2 n side
def gQ (T:Str->Sx):End->List (Option (Str->Sx))
 | .stop=>[]
 | .go _=>[some T]
 | .bu b x n _ _=>[(dJ T b x n true).map (cm T x),(dJ T b x n false).map (cm T x)]
def BV (H:Hp)(u:V):Option (Str->Sx)->Prop
 | none=>u=.bC
 | some T=>FV H u T
theorem BV.same {H H':Hp}{u:V}{o:Option (Str->Sx)}(h:BV H u o)(s:ao H H'):BV H' u o:=by
 cases o with
 | none=>exact h
 | some T=>exact FV.same h s
theorem BV.aK {H H':Hp}{u:V}{o:Option (Str->Sx)}(h:BV H u o)(k:∀p xs,H p=some (.tup xs)->H' p=some (.tup xs)):BV H' u o:=by
 cases o with
 | none=>exact h
 | some T=>exact FV.aK h k
def lI (H:Hp)(us:List V)(os:List (Option (Str->Sx))):Prop:=Paired (BV H) us os
def cQ (T:Str->Sx)(e:End):List (Nat×(Str->Sx)):=((aR e).zip (gQ T e)).filterMap fun p=>p.2.map fun U=>(p.1,U)
def oR (aA:Addr):Sp:=fun vs H Q _=>∃(fv:V) (ea:Addr) (T:Str->Sx) (e:End),vs=[fv,.ref ea]/\FV H fv T/\H ea=some (.tup (cx e))/\gP T 62 /\
 ∀(t:Addr) (us:List V) (H':Hp),H' t=some (.tup us)->lI H' us (gQ T e)->ao H H'->Q (.ref t) H'
def PV (H:Hp)(v:V)(p:Nat×(Str->Sx)):Prop:=∃q u,v=.ref q/\H q=some (.tup [.int p.1,u])/\FV H u p.2
theorem PV.aK {H H':Hp}{v:V}{p:Nat×(Str->Sx)}(h:PV H v p)(k:∀p xs,H p=some (.tup xs)->H' p=some (.tup xs)):PV H' v p:=by
 obtain⟨q,u,e,h1,h2⟩:=h
 exact⟨q,u,e,k _ _ h1,h2.aK k⟩
def mJ (H:Hp)(vs:List V)(ps:List (Nat×(Str->Sx))):Prop:=Paired (PV H) vs ps
theorem mJ.aK {H H':Hp}(k:∀p xs,H p=some (.tup xs)->H' p=some (.tup xs)):∀{vs:List V} {ps:List (Nat×(Str->Sx))},mJ H vs ps->mJ H' vs ps
 | _,_,.nil=>.nil
 | _,_,.cons h t=>.cons (h.aK k) (mJ.aK k t)
theorem lI.aK {H H':Hp}(k:∀p xs,H p=some (.tup xs)->H' p=some (.tup xs)):∀{vs:List V} {ps:List (Option (Str->Sx))},lI H vs ps->lI H' vs ps
 | _,_,.nil=>.nil
 | _,_,.cons h t=>.cons (h.aK k) (lI.aK k t)
theorem mJ.same {H H':Hp}{vs:List V}{ps:List (Nat×(Str->Sx))}(h:mJ H vs ps)(s:ao H H'):mJ H' vs ps:=h.aK fun p xs e=>s _ _ e
theorem lI.same {H H':Hp}{vs:List V}{ps:List (Option (Str->Sx))}(h:lI H vs ps)(s:ao H H'):lI H' vs ps:=h.aK fun p xs e=>s _ _ e
def rB (aA:Addr):Sp:=fun vs H Q _=>∃(fv:V) (ea:Addr) (T:Str->Sx) (e:End),vs=[fv,.ref ea]/\FV H fv T/\H ea=some (.tup (cx e))/\gP T 62 /\
 ∀(t:Addr) (vs:List V) (H':Hp),H' t=some (.tup vs)->mJ H' vs (cQ T e)->ao H H'->Q (.ref t) H'
def uW (T:Str->Sx):Prop:=∀x,T x≠cE->PyData.canLay0 (.str x)=true
theorem zL {T:Str->Sx}(h:uW T):∀ss:List Str,(∀x∈ss,T x≠cE)->(fL T ss).canLay0=true
 | [],_=>rfl
 | x::ss,hs=>by
  have ih:=zL h ss fun y hy=>hs y (G1 _ hy)
  show ((PyData.canLay0 (.str x)&&((dS (T x)).canLay0&&true))&&(fL T ss).canLay0)=true
  rw [h x (hs x (GZ ..)),ya,ih]
  rfl
theorem EG (T:Str->Sx)(ss:List Str):(fL T ss).depth<=3:=by
 have go:∀ss:List Str,PyData.depthAll (ss.map (dF T))<=2:=by
  intro ss
  induction ss with
  | nil=>exact Hg _
  | cons x ss ih =>
   show max (max 0 (max ((dS (T x)).depth) 0)+1) (PyData.depthAll (ss.map (dF T)))<=2
   have hd:(dS (T x)).depth<=1:=by
    obtain⟨a,b⟩:=T x
    cases a <;> cases b <;> (show (1:Nat)<=1;decide)
   omega
 show PyData.depthAll (ss.map (dF T))+1<=3
 have:=go ss
 omega
theorem Dg {T:Str->Sx}{e:End}(h:(aR e).length<2):gQ T e=(aR e).map fun _=>some T:=by
 cases e with
 | stop=>rfl
 | go p=>rfl
 | bu b x n p q=>exact absurd h (by show ¬2<2;omega)
theorem wZ {H:Hp}{fv:V}{T:Str->Sx}(h:FV H fv T):∀l:List Nat,lI H (IX l.length fv) (l.map fun _=>some T)
 | []=>.nil
 | _::l=>.cons h (wZ h l)
def n5 (H:Hp)(vs:List V)(rs:List Rs):Prop:=Paired (RV H) vs rs
theorem n5.same {H H':Hp}(s:ao H H'):∀{vs:List V} {rs:List Rs},n5 H vs rs->n5 H' vs rs
 | _,_,.nil=>.nil
 | _,_,.cons h t=>.cons (h.same s) (n5.same s t)
theorem n5.put {H:Hp}{l:Addr}{xs:List V}{o:HO}(hl:H l=some (.lst xs)):∀{vs:List V} {rs:List Rs},n5 H vs rs->n5 (upd H l o) vs rs
 | _,_,.nil=>.nil
 | _,_,.cons h t=>.cons (h.put hl) (n5.put hl t)
theorem RV.sv {aA:Addr}{H:Hp}{v:V}{s:Sx}(h:RV H v (some s)):SV aA H v s:=by
 obtain⟨a,b⟩:=s
 obtain⟨p,e,h⟩:=h
 exact .inl ⟨p,e,h⟩
def mK (ss:List Str):PyData:=.tuple (ss.map fun x=>.tuple [.str x,.tuple [.int 0,.int 0]])
def w4:Sp:=fun vs H Q _=>∃(plv:V) (ps:List Piece) (xs:List Str) (m:Nat),vs=[plv]/\aY H plv (dM ps)/\cJ xs m ps/\xs.length<64/\(bV ps).length<=4000 /\
 ∀(v:V) (ss:List Str) (H':Hp),aY H' v (mK ss)->ss.Perm (dW (bV ps))->sortedS ss=true->ao H H'->Q v H'
theorem gC:∀ss:List Str,cM (ss.map fun x=>PyData.tuple [.str x,.tuple [.int 0,.int 0]])=true
 | []=>rfl
 | x::ss=>by
  show (true&&cM (ss.map fun x=>PyData.tuple [.str x,.tuple [.int 0,.int 0]]))=true
  rw [gC ss];rfl
theorem zM {T:Str->Sx}{e:End}{i k:Nat}{o:Option (Str->Sx)}(h1:(aR e)[i]?=some k)(h2:(gQ T e)[i]?=some o) :
  (((aR e).zip (gQ T e)).take (i+1)).filterMap (fun p=>p.2.map fun U=>(p.1,U))=(((aR e).zip (gQ T e)).take i).filterMap (fun p=>p.2.map fun U=>(p.1,U))++(o.map fun U=>(k,U)).toList:=by
 have hz:((aR e).zip (gQ T e))[i]?=some (k,o):=by rw [List.getElem?_zip_eq_some];exact⟨h1,h2⟩
 rw [Hi,hz,List.filterMap_append]
 cases o <;> rfl
theorem fN {α β : Type}{F:α->β->Prop}{l:List α}{m:List β}(h:Paired F l m){i:Nat}{x:α}(e:l[i]?=some x):∃y,m[i]?=some y/\F x y:=LS.kH h e
theorem eS {α β : Type}{F:α->β->Prop}:∀{l l':List α} {m m':List β},Paired F l m->Paired F l' m'->Paired F (l++l') (m++m')
 | _,_,_,_,.nil,h=>h
 | _,_,_,_,.cons r t,h=>.cons r (eS t h)
section
variable {prog:Program}{w:World}{A:Around}{E:Value->Shared->Prop}{s:Shared}
end
section
variable {X:Cx}
end
theorem Dh {xs:List Str}{m:Nat}{ps:List Piece}(ok:cJ xs m ps):(bV ps).length<=ps.length*(2*m+1):=by
 unfold bV
 have h:∀p∈ps,(pNames p).length<=2*m+1:=fun p hp=>by
  have h1:=(ok.fk p hp).1
  unfold pNames
  rw [GW]
  have h2:(p.1.flatMap dZ).length<=2*p.1.length:=by
   induction p.1 with
   | nil=>simp
   | cons d ds ih =>
    rw [List.flatMap_cons,GW,Hq]
    have:(dZ d).length<=2:=by cases d <;> simp [dZ]
    omega
  have h3:(jh p.2).length<=1:=by cases p.2 <;> simp [jh]
  omega
 clear ok
 induction ps with
 | nil=>simp
 | cons p ps ih =>
  rw [List.flatMap_cons,GW,Hq]
  have h1:=h p (GZ ..)
  have h2:=ih fun q hq=>h q (G1 _ hq)
  rw [Nat.add_mul]
  omega
theorem vL {K:GP}{cd:Value}{q:Str}(h:Ih K cd q=true):Jl K cd=true:=by
 unfold Ih at h
 unfold Jl
 split at h
 ·split at h
  ·rename_i ho
   dsimp only
   rw [ho]
  ·cases h
 ·cases h
theorem Di {prog:Program}{w:World}{A:Around}{E:Value->Shared->Prop}{s:Shared}{Q:Value->Shared->Prop}(q:Q (.ref s.heap.objs.size) { s with heap:=s.heap.push (di w) }):wpAny (model prog w) A (newSet (.type "set")) Q E s:=by
 unfold newSet setsByText
 refine Jx (Jx (JZ (Jy ?_)))
 dsimp only
 simp only [newObj]
 first
  | exact JW (Jy q)
  | exact Jx (JW (Jy q))
  | exact Jx (JW (Jy (Jy q)))
  | exact Jx (JW q)
section
variable {X:Cx}
theorem Dj {e:Expr}{k:Nat}{pos:Pos}{te:TE}(hc:Jl X.K X.env.code=true)(he:PE X e te)(hk:displayRoad k [e]=.oneByOne:=by rfl)(hs:starEach [e] X.env=[(false,eval e X.env)]:=by rfl) :
  PE X (.Set [e] k pos) (fun GK H Q=>∀l,H l=none->te GK (upd H l (cO X.prog X.w l [])) fun x H1=>H1 l=some (cO X.prog X.w l [])/\∃kk,x=kV kk/\Q (.ref l) (upd H1 l (cO X.prog X.w l [kk]))):=by
 intro pins s GK H Q I h
 rw [arm_eval_Set]
 refine Jx (JR ?_)
 refine Jx (PySem.W.kds_main I.iK hc fun b=>?_)
 rw [hs,hk]
 unfold setDisplay
 dsimp only
 rw [if_neg (by decide)]
 refine Jx (Di ?_)
 dsimp only
 simp only [Hh,List.map_nil,Hq,Ja,Nat.reduceAdd,gt_iff_lt,Nat.reduceLT,if_false,List.findIdx?_cons,List.findIdx?_nil,Option.map_none,Option.getD_none,List.take_succ_cons,List.take_zero,List.drop_succ_cons,List.drop_nil,evalAll,Ie]
 have hS:eE (aT X.prog X.w) (s.heap.push (di X.w)) s.heap.objs.size []:=mr rfl (GX _ rfl)
 have I1:Inv X pins GK (upd H s.heap.objs.size (cO X.prog X.w s.heap.objs.size [])) { s with heap:=s.heap.push (di X.w) }:=I.laid (t':=s.toks) (fun b o e=>GV _ e) (GQ _) (j8 hS)
 refine Jx (JB ?_)
 refine Jx (Jx (Jx (bg (he pins _ GK _ _ I1 (h _ I.fresh)) fun v s1 ⟨x,H1,I2,rx,hl1,kk,ex,q⟩=>Jx (JR (Jy ?_)))))
 subst ex
 refine Jx (JB (Jy (Jy ?_)))
 refine Jx (JB ?_)
 simp only [HS,Ir]
 refine Jx (Jx (Jx (qY (nB rx) (I2.qX hl1) (by decide) fun h' b S' c=>Jy ?_)))
 refine Jy ?_
 rw [if_neg (by decide)]
 refine Jy ?_
 refine Jx (Jy (Jy (Jy ?_)))
 have e1:LS.putIn ([]:List Key) kk=[kk]:=by unfold LS.putIn;rw [if_neg (by simp)];rfl
 rw [e1] at S'
 refine⟨.ref s.heap.objs.size,_,I2.write (t':=s1.toks+1) (x:=s.heap.objs.size) (e:=s.heap.objs.size) (by rw [hl1];exact trivial) (.inl rfl) (fun c u' hc hu=>b.extBut c u' hc hu) ?_ (j8 S'),rfl,q⟩
 obtain⟨o,_,_,_,So⟩:=S'
 exact⟨o,So.at_⟩
end
section
variable {prog:Program}{w:World}{A:Around}{E:Value->Shared->Prop}{s:Shared}
theorem zN {d:Addr}(hd:(d == sysModules)=false) :
  MeetsIn prog w (Builtin.«dict.__len__» ⟨[.ref d],[]⟩) (fun _ R s=>∃(o:Obj) (es:Array DictEntry) (ep:Nat),s.heap.get? d=some o/\o.data=.dict es ep/\R (.ok (.ret (.int es.size s.toks))) { s with toks:=s.toks+1 }) :=
 .of_wp fun A R s ⟨o,es,ep,ho,hdat,h⟩=>by
  show wpAny _ _ (dictSize d >>= _) _ _ s
  unfold dictSize
  refine Jx (Jx (wpAny_dictEntries ho hdat (Jy ?_)))
  show wpAny _ _ (Builtin.Dict.pendingCount d >>= _) _ _ s
  refine Jx (wpAny_pendingCount_other hd ?_)
  refine wpAny_ret_mkInt ?_
  rw [Nat.add_zero];exact h
theorem Dk {d:Addr}{o:Obj}{es:Array DictEntry}{ep:Nat}{Q:Value->Shared->Prop}(hd:(d == sysModules)=false)(ho:s.heap.get? d=some o)(hc:o.ExactDict)(hdat:o.data=.dict es ep)(hfit:(es.size:Int)<2 ^ 63)
  (h:Q (.int es.size (s.toks+1)) { s with toks:=s.toks+1+1 }):wpAny (model prog w) A (call (.builtin "len") [.ref d]) Q E s:=by
 refine Calls.call_function_entry kind_len plain_len entry_len (args_len1 _) ?_
 have hT:s.TypeIs (.ref d) "dict" := ⟨o,ho,hc.1⟩
 unfold Builtin.«len»
 refine Jx (m:=oneArg "len" _) (Jy ?_)
 refine Jx (m:=callSpecial? (.ref d) (Str.ofString "__len__")) (wpAny_callSpecial?_slot (name:=Str.ofString "__len__") hT F.slot_dict_len
  (call_meetsIn F.slot_dict_len hT F.entry_dict_len (F.args_dict_len_1 _) (zN hd) ⟨o,es,ep,ho,hdat,?_⟩))
 show wpAny _ _ _ _ _ { s with toks:=s.toks+1 }
 refine Jx (JB (Jy ?_))
 refine Jx (JQ ?_)
 show wpAny _ _ (if ((es.size:Nat):Int)<0 then _ else _) _ _ _
 rw [if_neg (by omega)]
 show wpAny _ _ (if ((es.size:Nat):Int) >= 2 ^ 63 then _ else _) _ _ _
 rw [if_neg (by omega)]
 exact Jx (wpAny_mkInt (Jy ⟨_,rfl,h⟩))
end
section
variable {X:Cx}
theorem yd:er X (.builtin "len") (fun xs H Q=>∃a kvs,xs=[V.ref a]/\H a=some (fo X.prog X.w a kvs)/\Q (.int kvs.length) H):=by
 intro pins s GK H xs us Q I r h
 obtain⟨a,kvs,rfl,ha,q⟩:=h
 obtain⟨u,rfl,ru⟩:=vals1 r
 cases ru
 obtain⟨h1,h2,xs,o,es,ep,g1,g2,g3,g4,g5,g6⟩:=(show mF X.prog X.w a kvs s.heap from (I.aW a _ ha).1)
 have hz:es.size=kvs.length:=by rw [g6.len,<-Hw,g4,GO]
 have hn:=i7
 refine Dk h1 g1 g2 g3 (by omega) ?_
 rw [hz]
 exact⟨.int _,H,I.tok _,⟨_,rfl⟩,q⟩
theorem Bs {pos:Pos}{keys:List (Option Expr)}{values:List Expr}{trs:List (TE×TE)}(hu:X.A.units+66<cLine)(h:Cn X pos keys values trs)(hall:keys.all (·.isSome)=true)(hl:keys.length=values.length)(h0:keys≠[])
  (h15:keys.length<=15):PE X (.Dict keys values pos) (fun GK H Q=>∀p,H p=none->uB trs GK (upd H p (fo X.prog X.w p [])) fun ps H2=>H2 p=some (fo X.prog X.w p [])/\∃k v d,ps=[(.ref k,v)]/\gN d/\aY H2 (.ref k) d/\Q (.ref p) (upd H2 p (fo X.prog X.w p [(d,k,v)]))):=by
 intro pins s GK H Q I q
 have hn:=I.aW.fresh (GQ s.heap.objs.size)
 obtain⟨_,hb,_⟩:=(show cy X.prog X.w H _ s.heap.objs.size (.dK []) from uA s.heap I.big)
 have D0:mF X.prog X.w s.heap.objs.size [] (s.heap.push { cls:=.type "dict",data:=.dict #[] }):=⟨hb,Hg _,[],_,#[],0,GX _ rfl,⟨rfl,rfl,rfl⟩,rfl,rfl,Iy,.nil⟩
 have I1:=I.laid (a:=s.heap.objs.size) (o:=fo X.prog X.w s.heap.objs.size []) (h':=s.heap.push { cls:=.type "dict",data:=.dict #[] }) (t':=s.toks) (fun _ _ q=>GV _ q) (GQ _) (oP D0)
 refine wpAny_Dict_any hall hl h0 h15 (bg (h pins _ GK _ _ I1 (q _ hn)) fun ws s2 ⟨ps,H2,I2,rel,e,k,v,d,ep,hk,r,q2⟩=>?_)
 subst ep
 cases rel with
 | @cons _ wp _ _ hr t =>
 cases t
 obtain⟨wk,wv⟩:=wp
 obtain⟨r1,r2⟩:=hr
 cases (show wk=Value.ref k from r1)
 obtain⟨hd0,_,xs,kx,dd⟩:=p7 I2 e (fun p hp=>nomatch hp)
 cases kx
 unfold storeAll
 simp only [HS,Ir]
 refine Jx (Jx (wpAny_dictSet_heap (knd:=jj X.prog X.w) (show X.A.units+64<cLine by omega) (key_is I2 hk r) dd (fun h' hm' hs'=>Jy (Jy ?_)) (Hg _)))
 obtain⟨o',es,ep,g1,g2,g3,g4,g5,g6⟩:=id hm'
 refine⟨.ref s.heap.objs.size,_,I2.write (t':=_) (x:=s.heap.objs.size) (e:=s.heap.objs.size) (by rw [e];exact trivial) (.inl rfl) (fun c u' hc hu=>(hs'.2 c hc).trans hu) ⟨o',g1⟩ (oP ⟨hd0,(by show 1<=sizeLine;decide),[(d,k,wv)],o',es,ep,g1,g2,g3,g4,g6,.cons ⟨rfl,rfl,r2⟩ .nil⟩),rfl,q2⟩
end
section
variable {X:Cx}
end
theorem uX {A:Around}{k:Nat}(hr:dq k A):A.units+66<cLine:=by have:=hr.un;omega
section
variable {P:Program}{w:World}{K:GP}{mg:Str->Option Value}{base:Heap}
theorem b0.GG {x qual:Str}{st:Stmt}{f:Addr}{fd:FuncData}{N ps:List Str}{k:Nat}{sp:Sp}(F:b0 K x qual st f fd)(S:aS N ps (ay st))(len:∀vs H Q E,sp vs H Q E->vs.length=ps.length)
  (hbody:∀(cdv:Value) (A:Around) (outer:List Env) (s:Shared) (H:Hp) (vs:List V) (Q:VK) (E:XK),Jl K cdv=true->dq k (A.deeper (envOfC qual (ay st) s.heap.objs.size f cdv))->sp vs H Q E ->
   ∃t,iY (oB bT P w K mg base N qual (ay st) f cdv A outer s H E).we (dB st) t/\t { nx:=fun _ H'=>Q .bC H',rt:=Q } (start N vs) H):bp P w K mg base bT (k+1) f fd ps sp:=by
 obtain⟨oc,od,kV,doc,pm,an,cdv,ct,osl,rfl,lk,hcd⟩:=F.ex
 refine Ca lk hcd S len fun A outer s H vs Q E hr hsp=>?_
 obtain⟨t,h,q⟩:=hbody cdv A outer s H vs Q E (vL hcd) hr hsp
 exact⟨t,h.we,q⟩
end
def dE:Nat->List (PyData×Addr)->List (PyData×Addr×V)
 | _,[]=>[]
 | n,p::ps=>(p.1,p.2,.int (n:Nat))::dE (n+1) ps
theorem oU:∀(n:Nat) (ms:List (PyData×Addr)),(dE n ms).length=ms.length
 | _,[]=>rfl
 | n,_::ms=>congrArg (· + 1) (oU (n+1) ms)
theorem uY:∀(n:Nat) (ms:List (PyData×Addr)) (p:PyData×Addr),dE n (ms++[p])=dE n ms++[(p.1,p.2,.int ((n+ms.length:Nat):Int))]
 | n,[],p=>rfl
 | n,q::ms,p=>by
  show (q.1,q.2,V.int (n:Nat))::dE (n+1) (ms++[p])=_
  rw [uY (n+1) ms p,show n+1+ms.length=n+(q::ms).length by rw [Hq];omega]
  rfl
theorem uZ:∀(n:Nat) (ms:List (PyData×Addr)),∀q∈dE n ms,∃p∈ms,q.1=p.1/\q.2.1=p.2
 | _,[],q,hq=>nomatch hq
 | n,p::ms,q,hq=>by
  rcases GS.mp hq with rfl | hq
  ·exact⟨p,GZ ..,rfl,rfl⟩
  ·obtain⟨p',hp,r⟩:=uZ (n+1) ms q hq
   exact⟨p',G1 _ hp,r⟩
theorem kK (d:PyData):∀(n:Nat) (ms:List (PyData×Addr)),fe (dE n ms) d=if d∈ms.map (·.1) then some (.int ((n+(ms.map (·.1)).idxOf d:Nat):Int)) else none
 | n,[]=>by simp [dE,fe]
 | n,p::ms=>by
  have ih:=kK d (n+1) ms
  by_cases h:p.1=d
  ·have e1:fe (dE n (p::ms)) d=some (.int (n:Nat)):=by
    unfold fe dE
    rw [Jt (by exact decide_eq_true h)]
    rfl
   rw [e1,if_pos (by rw [Hh,h];exact GZ ..),Hh,h,List.idxOf_cons_self]
   rfl
  ·have e1:fe (dE n (p::ms)) d=fe (dE (n+1) ms) d:=by
    show fe ((p.1,p.2,V.int (n:Nat))::dE (n+1) ms) d=_
    unfold fe
    rw [Ju (by rw [decide_eq_false h];decide)]
   rw [e1,ih,Hh]
   by_cases hm:d∈ms.map (·.1)
   ·rw [if_pos hm,if_pos (G1 _ hm),List.idxOf_cons,beq_false_of_ne h]
    simp only [cond_false]
    congr 3
    omega
   ·rw [if_neg hm,if_neg (fun z=>(GS.mp z).elim (fun z=>h z.symm) hm)]
structure gR (P:Program) (w:World) (C:Addr) (H:Hp) (r m d:Addr) (ms:List (PyData×Addr)):Prop where
 ob:∃dx,H r=some (.ins C dx (rh (.ref m) (.ref d)))
 mem:H m=some (.lst (ms.map fun p=>V.ref p.2))
 mL:H d=some (fo P w d (dE 0 ms))
 keys:∀p∈ms,gN p.1/\aY H (.ref p.2) p.1
noncomputable def kL (ms:List (PyData×Addr)) (d:PyData) (k:Addr):List (PyData×Addr):=if d∈ms.map (·.1) then ms else ms++[(d,k)]
section
variable {P:Program}{w:World}{C r m d:Addr}{H H':Hp}{ms:List (PyData×Addr)}
theorem gR.jX (A:gR P w C H r m d ms):Ct H (dE 0 ms):=fun q hq=>by
 obtain⟨p,hp,e1,e2⟩:=uZ 0 ms q hq
 rw [e1,e2]
 exact A.keys p hp
theorem gR.GH (A:gR P w C H r m d ms):r≠m/\r≠d/\d≠m:=by
 obtain⟨dx,h1⟩:=A.ob
 refine⟨bN h1 A.mem ?_,bN h1 A.mL ?_,bN A.mL A.mem ?_⟩ <;> (intro z;cases z)
end
section
variable (P:Program)(w:World)(C:Addr)
def p9:Sp:=fun vs H Q _=>∃(r dx k:Addr) (d0:PyData),vs=[.ref r,.ref k]/\H r=some (.ins C dx [])/\gN d0/\aY H (.ref k) d0/\cL d0=true /\
 ∀(m d:Addr) (H':Hp),gR P w C H' r m d [(d0,k)]->(∀c o,H c=some o->c≠r->H' c=some o)->H m=none->H d=none->Q .bC H'
def qd:Sp:=fun vs H Q _=>∃(r m d k:Addr) (d0:PyData) (ms:List (PyData×Addr)),vs=[.ref r,.ref k]/\gR P w C H r m d ms/\ms.length<=1000/\gN d0/\aY H (.ref k) d0/\cL d0=true/\(∀p∈ms,cL p.1=true) /\
 ∀H',gR P w C H' r m d (kL ms d0 k)->kJ m d H H'->Q (.int (((kL ms d0 k).map (·.1)).idxOf d0:Nat)) H'
end
inductive mM (ps:List Piece):Nat->Prop
 | zero:mM ps 0
 | step {i k:Nat} {ds:List cf} {e:End}:mM ps i->ps[i]?=some (ds,e)->k∈aR e->mM ps k
def cZ (ps:List Piece)(k:Nat):Prop:=∃i ds e,mM ps i/\ps[i]?=some (ds,e)/\k∈aR e/\k<=i
abbrev kI (ks:List Nat):List Key:=ks.map fun k:Nat=>(Sum.inl (k:Int):Key)
theorem u9 {ks:List Nat}{k:Nat}:(Sum.inl (k:Int):Key)∈kI ks↔k∈ks:=by
 rw [G4]
 constructor
 ·rintro⟨x,hx,e⟩
  have:=Sum.inl.inj e
  rw [show k=x by omega];exact hx
 ·intro h;exact⟨k,h,rfl⟩
theorem zO {ks:List Nat}{k:Nat}:LS.putIn (kI ks) (Sum.inl (k:Int))=kI (LS.putIn ks k):=by
 unfold LS.putIn
 by_cases h:k∈ks
 ·rw [if_pos h,if_pos (u9.mpr h)]
 ·rw [if_neg h,if_neg (fun z=>h (u9.mp z))]
  show _=(ks++[k]).map _
  rw [G3];rfl
theorem w5 (ks:List Nat):kI ks=(ks.map fun k:Nat=>(k:Int)).map Sum.inl:=by rw [Ii];rfl
structure ye (ps:List Piece) (ks ws:List Nat):Prop where
 nd:ks.Nodup
 lt:∀k∈ks,k<ps.length
 EH:∀k∈ks,mM ps k
 zero:0∈ks
 sub:∀k∈ws,k∈ks
 done:∀k∈ks,k∈ws\/∀ds e,ps[k]?=some (ds,e)->∀j∈aR e,j∈ks
theorem ye.all {ps:List Piece}{ks:List Nat}(h:ye ps ks []):∀k,k∈ks↔mM ps k:=fun k=>by
 refine⟨h.EH k,fun r=>?_⟩
 induction r with
 | zero=>exact h.zero
 | step r hp hk ih=>exact (h.done _ ih).elim (fun z=>nomatch z) fun z=>z _ _ hp _ hk
theorem rC {ps:List Piece}(hin:cT ps){i:Nat}{ds:List cf}{e:End}(h:ps[i]?=some (ds,e)):∀k∈aR e,k<ps.length:=fun k hk=>by
 have h1:=hin _ (G9 h)
 cases e with
 | stop=>cases hk
 | go p=>rw [GR.mp hk];exact h1
 | bu b x n p q =>
  rcases GS.mp hk with z | z
  ·rw [z];exact h1.1
  ·rw [GR.mp z];exact h1.2
def sT:Sp:=fun vs H Q _=>∃(plv:V) (ps:List Piece),vs=[plv]/\aY H plv (dM ps)/\cT ps/\0<ps.length/\ps.length<=60 /\
 ∀(t:Addr) (ks:List Nat) (H':Hp),H' t=some (.tup (vN ks))->(∀k,k∈ks↔mM ps k)->(∀k∈ks,k<ps.length)->ks.length<=60->ao H H'->Q (.ref t) H'
def w6:Sp:=fun vs H Q _=>∃(plv:V) (ps:List Piece),vs=[plv]/\aY H plv (dM ps)/\cT ps/\0<ps.length/\ps.length<=60 /\
 ∀(t:Addr) (ks:List Nat) (H':Hp),H' t=some (.tup (vN ks))->(∀k,k∈ks↔cZ ps k)->ks.length<=60->ao H H'->Q (.ref t) H'
theorem mN {ss:List Int}{ks:List Nat}(h:ss.Perm (ks.map fun k:Nat=>(k:Int))):∃ms:List Nat,ss=ms.map (fun k:Nat=>(k:Int))/\ms.Perm ks:=by
 refine⟨ss.map IA,?_,?_⟩
 ·rw [Ii]
  have:∀x∈ss,((fun k:Nat=>(k:Int)) ∘ IA) x=x:=fun x hx=>by
   obtain⟨k,_,rfl⟩:=G4.mp (h.mem_iff.mp hx)
   show ((IA (k:Int):Nat):Int)=k
   omega
  rw [Je this,List.map_id']
 ·have:=h.map IA
  rw [Ii] at this
  have e:ks.map (IA ∘ fun k:Nat=>(k:Int))=ks:=by
   rw [Je (g:=id) (fun x _=>by show IA (x:Int)=x;omega),List.map_id]
  rw [e] at this
  exact this
abbrev Cp:=Nat×(Str->Sx)
def T0:Str->Sx:=fun _=>cE
def FD (T:Str->Sx)(d:PyData):Prop:=∃ss:List Str,ji ss/\(∀x,x∈ss↔T x≠cE)/\d=fL T ss
theorem FV.fd {H:Hp}{v:V}{T:Str->Sx}(h:FV H v T):∃d,FD T d/\aY H v d:=by
 obtain⟨p,xs,ss,rfl,hp,srt,hm,r⟩:=h
 exact⟨_,⟨ss,srt,hm,rfl⟩,.tup hp r⟩
theorem FD.fv {H:Hp}{v:V}{T:Str->Sx}{d:PyData}(h:FD T d)(r:aY H v d):FV H v T:=by
 obtain⟨ss,srt,hm,rfl⟩:=h
 obtain⟨p,xs,rfl,hp,r⟩:=aY.bZ r
 exact⟨p,xs,ss,rfl,hp,srt,hm,r⟩
theorem FD.unique {T:Str->Sx}{d d':PyData}(h:FD T d)(h':FD T d'):d=d':=by
 obtain⟨ss,srt,hm,rfl⟩:=h
 obtain⟨ss',srt',hm',rfl⟩:=h'
 rw [srt.unique srt' fun x=>by rw [hm,hm']]
theorem zP {a b:Option Int}(h:dO a=dO b):a=b:=by
 cases a with
 | none=>cases b with
  | none=>rfl
  | some _=>cases h
 | some i=>cases b with
  | none=>cases h
  | some j=>injection h with h;rw [h]
theorem EI {a b:Sx}(h:dS a=dS b):a=b:=by
 obtain⟨a1,a2⟩:=a
 obtain⟨b1,b2⟩:=b
 have h1:[dO a1,dO a2]=[dO b1,dO b2]:=by injection h
 injection h1 with h1 h2
 injection h2 with h2 _
 rw [zP h1,zP h2]
theorem w9 {T T':Str->Sx}:∀{ss ss':List Str},ss.map (dF T)=ss'.map (dF T')->ss=ss'/\∀x∈ss,T x=T' x
 | [],[],_=>⟨rfl,fun _ h=>nomatch h⟩
 | [],_::_,h=>by cases h
 | _::_,[],h=>by cases h
 | x::ss,y::ss',h=>by
  rw [Hh,Hh] at h
  injection h with h1 h2
  have h3:[PyData.str x,dS (T x)]=[PyData.str y,dS (T' y)]:=by injection h1
  injection h3 with h4 h5
  injection h5 with h5 _
  have exy:x=y:=by injection h4
  subst exy
  obtain⟨e,hr⟩:=w9 h2
  refine⟨by rw [e],fun z hz=>?_⟩
  rcases GS.mp hz with rfl | hz
  ·exact EI h5
  ·exact hr z hz
theorem FD.inj {T T':Str->Sx}{d:PyData}(h:FD T d)(h':FD T' d):T=T':=by
 obtain⟨ss,srt,hm,rfl⟩:=h
 obtain⟨ss',srt',hm',e⟩:=h'
 have e':ss.map (dF T)=ss'.map (dF T'):=by injection e
 obtain⟨rfl,hx⟩:=w9 e'
 funext x
 by_cases h:x∈ss
 ·exact hx x h
 ·have h1:T x=cE:=Classical.byContradiction fun z=>h ((hm x).mpr z)
  have h2:T' x=cE:=Classical.byContradiction fun z=>h ((hm' x).mpr z)
  rw [h1,h2]
theorem FD.zero:FD T0 (.tuple []):=⟨[],⟨Ic.nil,Iy⟩,fun x=>⟨fun h=>(nomatch h),fun h=>absurd rfl h⟩,rfl⟩
def CD (c:Cp)(d:PyData):Prop:=∃fd,FD c.2 fd/\d=.tuple [.int (c.1:Nat),fd]
theorem CD.iff {c c':Cp}{d d':PyData}(h:CD c d)(h':CD c' d'):d=d'↔c=c':=by
 obtain⟨fd,hf,rfl⟩:=h
 obtain⟨fd',hf',rfl⟩:=h'
 constructor
 ·intro e
  have e1:[PyData.int (c.1:Nat),fd]=[PyData.int (c'.1:Nat),fd']:=by injection e
  injection e1 with e2 e3
  injection e3 with e3 _
  have e4:(c.1:Int)=(c'.1:Int):=by injection e2
  subst e3
  exact Prod.ext (by omega) (hf.inj hf')
 ·rintro rfl
  rw [hf.unique hf']
noncomputable instance Fu:DecidableEq Cp:=fun a b=>Classical.propDecidable (a=b)
theorem CD.mem {c:Cp}{d:PyData}(h:CD c d):∀{ds:List PyData} {cs:List Cp},Paired (fun d c=>CD c d) ds cs->(d∈ds↔c∈cs)/\ds.idxOf d=cs.idxOf c
 | _,_,.nil=>⟨by simp,rfl⟩
 | _,_,.cons (a:=d') (b:=c') (l₁:=ds) (l₂:=cs) h' t=>by
  obtain⟨i1,i2⟩:=CD.mem h t
  have e:=h'.iff h
  constructor
  ·rw [GS,GS,i1]
   constructor
   ·rintro (z | z)
    ·exact .inl (e.mp z.symm).symm
    ·exact .inr z
   ·rintro (z | z)
    ·exact .inl (e.mpr z.symm).symm
    ·exact .inr z
  ·rw [List.idxOf_cons,List.idxOf_cons]
   by_cases z:d' = d
   ·have z':=e.mp z
    rw [z,z',beq_self_eq_true,beq_self_eq_true]
    rfl
   ·have z':¬c' = c:=fun w=>z (e.mpr w)
    rw [beq_false_of_ne z,beq_false_of_ne z',i2]
theorem qe {T:Str->Sx}:∀ss:List Str,eF (fL T ss)=true
 | []=>rfl
 | x::ss=>by
  have ih:dm (ss.map (dF T))=true:=qe ss
  show ((true&&(eF (dS (T x))&&true))&&dm (ss.map (dF T)))=true
  rw [ih]
  obtain⟨a,b⟩:=T x
  cases a <;> cases b <;> rfl
theorem CD.key {c:Cp}{d:PyData}(h:CD c d)(hl:uW c.2):gN d:=by
 obtain⟨fd,⟨ss,srt,hm,rfl⟩,rfl⟩:=h
 refine⟨?_,?_,?_,_,rfl⟩
 ·show (true&&(eF (fL c.2 ss)&&true))=true
  rw [qe];rfl
 ·show (true&&((fL c.2 ss).canLay0&&true))=true
  rw [zL hl ss fun x hx=>(hm x).mp hx];rfl
 ·show max 0 (max (fL c.2 ss).depth 0)+1<=7
  have:=EG c.2 ss
  omega
section
variable (tops:Nat->Prop)(most:Nat)
open Classical in
noncomputable def bK (cs:List Cp) (c:Cp):Cp:=if tops c.1 then (c.1,T0) else if c∈cs\/cs.length<most then c else (c.1,T0)
noncomputable def fq (st:List Cp×List Nat) (l:Cp):List Cp×List Nat:=(LS.putIn st.1 (bK tops most st.1 l),st.2++[(LS.putIn st.1 (bK tops most st.1 l)).idxOf (bK tops most st.1 l)])
noncomputable def cC (cs:List Cp) (ls:List Cp):List Cp×List Nat:=ls.foldl (fq tops most) (cs,[])
theorem vM {cs ls:List Cp}{i:Nat}{l:Cp}(h:ls[i]?=some l):cC tops most cs (ls.take (i+1))=fq tops most (cC tops most cs (ls.take i)) l:=by
 unfold cC
 rw [Hi,h,Jh]
 rfl
def jN (e:End):List Nat->End
 | [a]=>.go a
 | ns=>Bk e ns
noncomputable def fY (ps:List Piece):Nat->List Cp->List Piece->List Cp×List Piece
 | 0,cs,outs=>(cs,outs)
 | f+1,cs,outs=>match cs[outs.length]? with
  | none=>(cs,outs)
  | some c=>match ps[c.1]? with
   | none=>(cs,outs)
   | some pc=>fY ps f (cC tops most cs (cQ (cw c.2 pc.1) pc.2)).1 (outs++[(pc.1,jN pc.2 (cC tops most cs (cQ (cw c.2 pc.1) pc.2)).2)])
end
theorem sU {T:Str->Sx}:∀ss:List Str,cL (fL T ss)=true
 | []=>rfl
 | x::ss=>by
  have ih:cM (ss.map (dF T))=true:=sU ss
  show ((true&&(cL (dS (T x))&&true))&&cM (ss.map (dF T)))=true
  rw [ih]
  obtain⟨a,b⟩:=T x
  cases a <;> cases b <;> rfl
theorem CD.kf {c:Cp}{d:PyData}(h:CD c d):cL d=true:=by
 obtain⟨fd,⟨ss,srt,hm,rfl⟩,rfl⟩:=h
 show (true&&(cL (fL c.2 ss)&&true))=true
 rw [sU];rfl
def xa:Sp:=fun vs H Q _=>∃(ea l:Addr) (e:End) (ns:List Nat),vs=[.ref ea,.ref l]/\H ea=some (.tup (cx e))/\H l=some (.lst (vN ns))/\(ns.length=1\/ns.length=(aR e).length)/\ns.length<=2 /\
 ∀t H',H' t=some (.tup (cx (jN e ns)))->ao H H'->Q (.ref t) H'
abbrev n9 (ms:List (PyData×Addr))(cs:List Cp):Prop:=Paired (fun d c=>CD c d) (ms.map (·.1)) cs
def sV (P:Program)(w:World):Sp:=fun vs H Q _=>∃(la tp d:Addr) (most k:Nat) (T:Str->Sx) (dl:PyData) (hs:List Nat) (fv:V) (ms:List (PyData×Addr)) (cs:List Cp) (tops:Nat->Prop),vs=[.ref la,.ref tp,.ref d,.int (most:Nat)] /\
 H la=some (.tup [.int (k:Nat),fv])/\aY H (.ref la) dl/\CD (k,T) dl/\uW T/\H tp=some (.tup (vN hs))/\(∀j,j∈hs↔tops j)/\H d=some (fo P w d (dE 0 ms))/\Ct H (dE 0 ms)/\n9 ms cs /\
 ∀(a:Addr) (d':PyData) (H':Hp),aY H' (.ref a) d'->CD (bK tops most cs (k,T)) d'->ao H H'->Q (.ref a) H'
structure cA (xs:List Str) (T:Str->Sx):Prop where
 sup:∀x,T x≠cE->x∈xs
 le:∀x,jA (T x).1 (T x).2
theorem cA.zero {xs:List Str}:cA xs T0:=⟨fun x h=>absurd rfl h,fun x=>True.intro⟩
theorem cA.set {xs:List Str}{T:Str->Sx}(h:cA xs T){x:Str}{s:Sx}(hx:x∈xs)(hs:jA s.1 s.2):cA xs (cm T x s):=by
 refine⟨fun y hy=>?_,fun y=>?_⟩
 ·unfold cm at hy
  by_cases e:y=x
  ·rw [e];exact hx
  ·rw [if_neg e] at hy;exact h.sup y hy
 ·unfold cm
  by_cases e:y=x
  ·rw [if_pos e];exact hs
  ·rw [if_neg e];exact h.le y
theorem Dl {w:Str}{lo hi:Option Int}{n:Int}{side:Bool}{s:Sx}(le:jA lo hi)(h:fE w lo hi n side=some s):jA s.1 s.2:=by
 unfold fE at h
 split at h
 ·unfold nv at h
  split at h
  ·unfold gd at h
   cases lo with
   | none=>cases h;exact True.intro
   | some l =>
    dsimp only at h
    split at h
    ·cases h
    ·cases h;show l<=jH hi n;omega
  ·unfold ip at h
   cases hi with
   | none=>cases h;exact True.intro
   | some l =>
    dsimp only at h
    split at h
    ·cases h
    ·cases h;show jI lo n<=l;omega
 ·unfold wK at h
  split at h
  ·unfold sA at h
   split at h
   ·cases h;exact Int.le_refl n
   ·cases h
  ·unfold jJ at h
   split at h
   ·next h1 =>
    split at h
    ·cases h
    ·next h2 =>
     cases h
     subst h1
     cases hi with
     | none=>exact True.intro
     | some b =>
      have:n<=b:=le
      have:¬b=n:=fun z=>h2 (by rw [z])
      show n+1<=b
      omega
   ·next h1 =>
    split at h
    ·next h2 =>
     cases h
     subst h2
     cases lo with
     | none=>exact True.intro
     | some a =>
      have:a<=n:=le
      have:¬a=n:=fun z=>h1 (by rw [z])
      show a<=n-1
      omega
    ·cases h;exact le
theorem cA.GI {xs:List Str}{T:Str->Sx}(h:cA xs T){d:cf}(hd:fz xs d):cA xs (q8 T d):=by
 refine h.set hd.name ?_
 cases d with
 | put x n=>exact Int.le_refl n
 | copy x y=>exact h.le y
 | add x n =>
  have:=h.le x
  show jA (zA (T x).1 n) (zA (T x).2 n)
  cases e1:(T x).1 with
  | none=>exact True.intro
  | some a=>cases e2:(T x).2 with
   | none=>exact True.intro
   | some b =>
    rw [e1,e2] at this
    have:a<=b:=this
    show a+n<=b+n
    omega
 | read x=>exact True.intro
 | tell x=>exact h.le x
theorem cA.va {xs:List Str}:∀{ds:List cf} {T:Str->Sx},cA xs T->(∀d∈ds,fz xs d)->cA xs (cw T ds)
 | [],_,h,_=>h
 | d::ds,T,h,hd=>cA.va (ds:=ds) (h.GI (hd d (GZ ..))) fun e he=>hd e (G1 _ he)
theorem xb {xs:List Str}{c:Nat}{T:Str->Sx}{e:End}(h:cA xs T)(he:jw xs c e):∀p∈cQ T e,p.1<c/\cA xs p.2:=fun p hp=>by
 unfold cQ at hp
 obtain⟨⟨k,o⟩,ho,hm⟩:=Jo.mp hp
 have hz:=IW ho
 cases e with
 | stop=>cases hz.1
 | go q =>
  rw [GR.mp hz.2] at hm
  cases hm
  exact⟨by rw [GR.mp hz.1];exact he,h⟩
 | bu b x n q r =>
  have hk:k<c:=by
   rcases GS.mp hz.1 with z | z
   ·rw [z];exact he.2.2.1
   ·rw [GR.mp z];exact he.2.2.2
  have key:∀side,o=(dJ T b x n side).map (cm T x)->p.1<c/\cA xs p.2:=fun side eo=>by
   dsimp only at hm
   rw [eo] at hm
   cases z:dJ T b x n side with
   | none=>rw [z] at hm;cases hm
   | some s =>
    rw [z] at hm
    cases hm
    exact⟨hk,h.set he.1 (Dl (h.le x) z)⟩
  rcases GS.mp hz.2 with z | z
  ·exact key true z
  ·exact key false (GR.mp z)
theorem vb {xs:List Str}{T:Str->Sx}{e:End}(h:cA xs T):((cQ T e).length=1\/(cQ T e).length=(aR e).length)/\(cQ T e).length<=2:=by
 cases e with
 | stop=>exact⟨.inr rfl,Hg _⟩
 | go q=>exact⟨.inl rfl,by show 1<=2;decide⟩
 | bu b x n q r =>
  have e:cQ T (.bu b x n q r)=((dJ T b x n true).map fun s=>(q,cm T x s)).toList++((dJ T b x n false).map fun s=>(r,cm T x s)).toList:=by
   unfold cQ
   show ([(q,(dJ T b x n true).map (cm T x)),(r,(dJ T b x n false).map (cm T x))].filterMap fun p=>p.2.map fun U=>(p.1,U))=_
   cases dJ T b x n true <;> cases dJ T b x n false <;> rfl
  rw [e]
  cases e1:dJ T b x n true with
  | none=>cases e2:dJ T b x n false with
   | none=>exact (AK (h.le x) e1 e2).elim
   | some s=>exact⟨.inl rfl,by show 1<=2;decide⟩
  | some s=>cases e2:dJ T b x n false with
   | none=>exact⟨.inl rfl,by show 1<=2;decide⟩
   | some s=>exact⟨.inr rfl,GQ 2⟩
theorem cA.lay {xs:List Str}{T:Str->Sx}(h:cA xs T)(hx:∀x∈xs,eO x):uW T:=fun x hx'=>Bq (hx x (h.sup x hx'))
theorem cA.bB {xs:List Str}{T:Str->Sx}(h:cA xs T):gP T xs.length:=fun ss hs nd=>sub_len nd fun x hx=>h.sup x (hs x hx)
open Classical in
noncomputable def mO (c:Cp):Bool:=decide (c.2≠T0)
theorem sW {α : Type}(p:α->Bool):∀l:List α,l.length=(l.filter p).length+(l.filter fun x=>!p x).length
 | []=>rfl
 | x::l=>by
  have ih:=sW p l
  cases h:p x with
  | true=>rw [Jk h,IP (by simp [h]),Hq,Hq];omega
  | false=>rw [IP (by simp [h]),Jk (by simp [h]),Hq,Hq];omega
structure jm (n most:Nat) (cs:List Cp):Prop where
 nd:cs.Nodup
 bB:(cs.filter mO).length<=most
theorem jm.len {n most:Nat}{cs:List Cp}(h:jm n most cs)(hl:∀c∈cs,c.1<n):cs.length<=most+n:=by
 have e:=sW mO cs
 have h2:(cs.filter fun c=>!mO c).length<=n:=by
  have nd2:((cs.filter fun c=>!mO c).map (·.1)).Nodup:=by
   rw [List.Nodup,List.pairwise_map]
   refine (h.nd.filter _).imp_of_mem fun {a b} ha hb hne z=>hne ?_
   have ha2:=(HD.mp ha).2
   have hb2:=(HD.mp hb).2
   simp [mO] at ha2 hb2
   exact Prod.ext z (by rw [ha2,hb2])
  have:=gB (n:=n) nd2 fun x hx=>by
   obtain⟨c,hc,rfl⟩:=G4.mp hx
   exact hl c (HD.mp hc).1
  rw [GO] at this
  exact this
 have:=h.bB
 omega
theorem jm.put {n most:Nat}{tops:Nat->Prop}{cs:List Cp}{l:Cp}(h:jm n most cs):jm n most (LS.putIn cs (bK tops most cs l)):=by
 unfold LS.putIn
 by_cases hm:bK tops most cs l∈cs
 ·rw [if_pos hm];exact h
 ·rw [if_neg hm]
  refine⟨?_,?_⟩
  ·rw [Ij]
   refine⟨h.nd,by simp,fun x hx y hy z=>?_⟩
   rw [GR.mp hy] at z
   exact hm (z ▸ hx)
  ·rw [Jf,GW]
   by_cases hz:(bK tops most cs l).2=T0
   ·rw [IP (by simp [mO,hz])]
    simpa using h.bB
   ·have hlt:cs.length<most:=by
     unfold bK at hz hm
     split at hz
     ·exact absurd rfl hz
     ·split at hz
      ·next h1 h2 =>
       rw [if_neg h1,if_pos h2] at hm
       exact h2.resolve_left hm
      ·exact absurd rfl hz
    have h3:(cs.filter mO).length<=cs.length:=HV _ _
    have h4:(List.filter mO [bK tops most cs l]).length<=1:=HV _ _
    omega
open Classical in
noncomputable def startT (ps:List Piece):Str->Sx:=fun x=>if x∈bV ps then (some 0,some 0) else cE
open Classical in
noncomputable def gX (ps:List Piece):Cp:=if cZ ps 0 then (0,T0) else (0,startT ps)
noncomputable def ft (ps:List Piece) (most:Nat):List Cp×List Piece:=fY (cZ ps) most ps (most+ps.length) [gX ps] []
theorem Bt {ps:List Piece}{ss:List Str}(hp:ss.Perm (LS.dW (bV ps)))(hs:sortedS ss=true):FD (startT ps) (mK ss):=by
 have hm:∀x,x∈ss↔x∈bV ps:=fun x=>hp.mem_iff.trans LS.sF
 refine⟨ss,⟨mB hs,hp.nodup_iff.mpr (LS.uO _)⟩,fun x=>?_,?_⟩
 ·rw [hm]
  unfold startT
  by_cases h:x∈bV ps
  ·rw [if_pos h];exact⟨fun _ z=>(by cases z),fun _=>h⟩
  ·rw [if_neg h];exact⟨fun z=>absurd z h,fun z=>absurd rfl z⟩
 ·unfold mK fL
  congr 1
  refine Je fun x hx=>?_
  unfold dF startT
  rw [if_pos ((hm x).mp hx)]
  rfl
theorem oV {ps:List Piece}{xs:List Str}{m:Nat}(ok:cJ xs m ps):cA xs (startT ps):=by
 refine⟨fun x hx=>?_,fun x=>?_⟩
 ·unfold startT at hx
  by_cases h:x∈bV ps
  ·exact sG ok x h
  ·rw [if_neg h] at hx;exact absurd rfl hx
 ·unfold startT
  split
  ·exact Int.le_refl 0
  ·exact True.intro
theorem qf {tops:Nat->Prop}{most:Nat}{ps:List Piece}{f:Nat}{cs:List Cp}{outs:List Piece}{c:Cp}{pc:Piece}(h:cs[outs.length]?=some c)(hp:ps[c.1]?=some pc) :
  fY tops most ps (f+1) cs outs=fY tops most ps f (cC tops most cs (cQ (cw c.2 pc.1) pc.2)).1 (outs++[(pc.1,jN pc.2 (cC tops most cs (cQ (cw c.2 pc.1) pc.2)).2)]):=by
 conv=>lhs;unfold fY
 rw [h]
 dsimp only
 rw [hp]
theorem sX {tops:Nat->Prop}{most:Nat}{ps:List Piece}{cs:List Cp}{outs:List Piece}(h:cs[outs.length]?=none):∀f,fY tops most ps f cs outs=(cs,outs)
 | 0=>rfl
 | f+1=>by
  conv=>lhs;unfold fY
  rw [h]
def sY (P:Program)(w:World)(C:Addr):Sp:=fun vs H Q _=>∃(plv:V) (ps:List Piece) (xs:List Str) (most:Nat),vs=[plv,.int (most:Nat)]/\aY H plv (dM ps)/\cJ xs 6 ps/\(∀x∈xs,eO x)/\xs.length<=10/\0<ps.length/\ps.length<=60/\1<=most/\most<=300 /\
 ∀(v:V) (ds:List PyData) (H':Hp),Paired (fun d c=>CD c d) ds (ft ps most).1->aY H' v (.tuple [.tuple ((ft ps most).2.map dY),.tuple ds])->ao H H'->Q v H'
theorem Dm {X:Cx}{K:GP}{e:Expr}{f:Str}{pos:Pos}{ta:TE}(hK:X.K=K)(he:PE X e ta)(hb:attributeBase e f X.env (eval e X.env)=eval e X.env):PE X (.Attribute e f pos) (DL K ta f):=by
 subst hK
 exact gI he hb
theorem iD {tops:Nat->Prop}{most n:Nat}{xs:List Str}:∀{ls cs:List Cp} {ns:List Nat},jm n most cs->(∀c∈cs,c.1<n/\cA xs c.2)->(∀c∈ls,c.1<n/\cA xs c.2)->jm n most (ls.foldl (fq tops most) (cs,ns)).1/\(∀c∈(ls.foldl (fq tops most) (cs,ns)).1,c.1<n/\cA xs c.2)/\(ls.foldl (fq tops most) (cs,ns)).2.length=ns.length+ls.length/\∃more,(ls.foldl (fq tops most) (cs,ns)).1=cs++more
 | [],cs,ns,h,hc,_=>⟨h,hc,rfl,[],by simp⟩
 | l::ls,cs,ns,h,hc,hl=>by
  have hl0:=hl l (GZ ..)
  have hcp:(bK tops most cs l).1<n/\cA xs (bK tops most cs l).2:=by
   unfold bK
   split
   ·exact⟨hl0.1,cA.zero⟩
   ·split
    ·exact hl0
    ·exact⟨hl0.1,cA.zero⟩
  have hc':∀c∈LS.putIn cs (bK tops most cs l),c.1<n/\cA xs c.2:=fun c hc'=>by
   rcases LS.iB.mp hc' with z | z
   ·exact hc c z
   ·rw [z];exact hcp
  obtain⟨i1,i2,i3,more,i4⟩:=iD (tops:=tops) (ls:=ls) (cs:=LS.putIn cs (bK tops most cs l)) (ns:=ns++[(LS.putIn cs (bK tops most cs l)).idxOf (bK tops most cs l)]) (h.put (l:=l)) hc' fun c hc=>hl c (G1 _ hc)
  refine⟨i1,i2,?_,?_⟩
  ·refine Eq.trans (show (ls.foldl (fq tops most) (fq tops most (cs,ns) l)).2.length=(ns++[(LS.putIn cs (bK tops most cs l)).idxOf (bK tops most cs l)]).length+ls.length from i3) ?_
   simp only [GW,Hq,Ja]
   omega
  ·have i4':(ls.foldl (fq tops most) (fq tops most (cs,ns) l)).1=LS.putIn cs (bK tops most cs l)++more:=i4
   show ∃more,(ls.foldl (fq tops most) (fq tops most (cs,ns) l)).1=cs++more
   rw [i4']
   unfold LS.putIn
   split
   ·exact⟨more,rfl⟩
   ·exact⟨bK tops most cs l::more,by simp⟩
theorem gR.mv {P:Program}{w:World}{C r m d:Addr}{H H':Hp}{ms:List (PyData×Addr)}(A:gR P w C H r m d ms)(nls:∀p∈ms,cL p.1=true)(k:∀c o,H c=some o->(c=r\/c=m\/c=d)->H' c=some o)(kt:∀p zs,H p=some (.tup zs)->H' p=some (.tup zs)):gR P w C H' r m d ms:=by
 obtain⟨⟨dx,h1⟩,h2,h3,h4⟩:=A
 exact⟨⟨dx,k _ _ h1 (.inl rfl)⟩,k _ _ h2 (.inr (.inl rfl)),k _ _ h3 (.inr (.inr rfl)),fun p hp=>⟨(h4 p hp).1,(h4 p hp).2.aK kt (nls p hp)⟩⟩
theorem n9.kf {ms:List (PyData×Addr)}{cs:List Cp}(h:n9 ms cs):∀p∈ms,cL p.1=true:=by
 have go:∀{ds:List PyData} {cs:List Cp},Paired (fun d c=>CD c d) ds cs->∀d∈ds,cL d=true:=by
  intro ds cs h
  induction h with
  | nil=>intro d hd;cases hd
  | cons r _ ih =>
   intro d hd
   rcases GS.mp hd with rfl | hd
   ·exact r.kf
   ·exact ih d hd
 exact fun p hp=>go h p.1 (G4.mpr ⟨p,hp,rfl⟩)
theorem n9.put {ms:List (PyData×Addr)}{cs:List Cp}{c:Cp}{d:PyData}{a:Addr}(h:n9 ms cs)(cd:CD c d):n9 (kL ms d a) (LS.putIn cs c):=by
 obtain⟨hm,_⟩:=cd.mem h
 unfold kL LS.putIn
 by_cases z:c∈cs
 ·rw [if_pos z,if_pos (hm.mpr z)];exact h
 ·rw [if_neg z,if_neg (fun w=>z (hm.mp w))]
  show Paired _ ((ms++[(d,a)]).map (·.1)) _
  rw [G3]
  exact eS h (.cons cd .nil)
theorem xc {H:Hp}:∀{ms:List (PyData×Addr)},(∀p∈ms,aY H (.ref p.2) p.1)->aX H (ms.map fun p=>V.ref p.2) (ms.map (·.1))
 | [],_=>.nil
 | p::ms,h=>.cons (h p (GZ ..)) (xc fun q hq=>h q (G1 _ hq))
section
variable {prog:Program}{w:World}{A:Around}{E:Value->Shared->Prop}{s:Shared}
end
section
variable {X:Cx}
end
open Classical in
noncomputable def oW (T:Str->Sx) (ss:List Str):Str->Sx:=fun x=>if x∈ss then T x else cE
theorem Bu {T:Str->Sx}{ss:List Str}{x:Str}:cm (oW T ss) x (T x)=oW T (ss++[x]):=by
 funext y
 unfold cm oW
 by_cases e:y=x
 ·rw [if_pos e,if_pos (by rw [e];exact Hn _ (GR.mpr rfl)),e]
 ·rw [if_neg e]
  by_cases h:y∈ss
  ·rw [if_pos h,if_pos (Hv _ h)]
  ·rw [if_neg h,if_neg (fun z=>(Hd.mp z).elim h fun w=>e (GR.mp w))]
theorem Bv {T:Str->Sx}{ss:List Str}(h:∀x,x∈ss↔T x≠cE):oW T ss=T:=by
 funext x
 unfold oW
 by_cases z:x∈ss
 ·rw [if_pos z]
 ·rw [if_neg z]
  exact (Classical.byContradiction fun w=>z ((h x).mpr fun e=>w e.symm))
theorem vc {H:Hp}{v:V}{o:Option Int}(h:aY H v (dO o)):v=vO o:=by
 cases o with
 | none=>cases h;rfl
 | some i=>cases h;rfl
theorem Bw {H:Hp}{v:V}{s:Sx}(h:aY H v (dS s)):SH H v s:=by
 obtain⟨p,zs,rfl,hp,r⟩:=aY.bZ h
 obtain⟨y1,t1,rfl,q1,r⟩:=r.cons_inv
 obtain⟨y2,t2,rfl,q2,r⟩:=r.cons_inv
 have z:=r.nil_inv
 subst z
 rw [vc q1,vc q2] at hp
 exact⟨p,rfl,hp⟩
section
variable {tops:Nat->Prop}{most:Nat}
def Goes (tops:Nat->Prop)(most:Nat)(cs:List Cp)(ls:List Cp)(ns:List Nat):Prop:=Paired (fun l k=>∃c':Cp,cs[k]?=some c'/\c'.1=l.1/\((¬tops l.1/\c'.2=l.2)\/(c'.2=T0/\(tops l.1\/most<=cs.length)))) ls ns
theorem Goes.more {cs ls more:List Cp}{ns:List Nat}(h:Goes tops most cs ls ns):Goes tops most (cs++more) ls ns:=by
 unfold Goes at h ⊢
 induction h with
 | nil=>exact .nil
 | cons r _ ih =>
  obtain⟨c',h1,h2,h3⟩:=r
  refine .cons ⟨c',?_,h2,?_⟩ ih
  ·rw [HY (G7.mp h1).1];exact h1
  ·rcases h3 with h3 | ⟨h3,h4 | h4⟩
   ·exact .inl h3
   ·exact .inr ⟨h3,.inl h4⟩
   ·exact .inr ⟨h3,.inr (by rw [GW];omega)⟩
theorem Bx {cs:List Cp}{c:Cp}:(LS.putIn cs c)[(LS.putIn cs c).idxOf c]?=some c:=by
 have hm:c∈LS.putIn cs c:=LS.iB.mpr (.inr rfl)
 have hl:=List.idxOf_lt_length_of_mem hm
 rw [Js hl,List.getElem_idxOf hl]
theorem oa:∀{ls cs:List Cp} {ns:List Nat},∃more ms,(ls.foldl (fq tops most) (cs,ns)).1=cs++more/\(ls.foldl (fq tops most) (cs,ns)).2=ns++ms/\Goes tops most (ls.foldl (fq tops most) (cs,ns)).1 ls ms
 | [],cs,ns=>⟨[],[],by simp,by simp,.nil⟩
 | l::ls,cs,ns=>by
  obtain⟨more,ms,e1,e2,g⟩:=oa (ls:=ls) (cs:=LS.putIn cs (bK tops most cs l)) (ns:=ns++[(LS.putIn cs (bK tops most cs l)).idxOf (bK tops most cs l)])
  have e0:(l::ls).foldl (fq tops most) (cs,ns)=ls.foldl (fq tops most) (LS.putIn cs (bK tops most cs l),ns++[(LS.putIn cs (bK tops most cs l)).idxOf (bK tops most cs l)]):=rfl
  rw [e0]
  have hp:∃m0,LS.putIn cs (bK tops most cs l)=cs++m0:=by
   unfold LS.putIn
   split
   ·exact⟨[],by simp⟩
   ·exact⟨_,rfl⟩
  obtain⟨m0,em⟩:=hp
  have hat:=Bx (cs:=cs) (c:=bK tops most cs l)
  refine⟨m0++more,(LS.putIn cs (bK tops most cs l)).idxOf (bK tops most cs l)::ms,by rw [e1,em,HB],by rw [e2,HB];rfl,.cons ⟨bK tops most cs l,?_,?_,?_⟩ g⟩
  ·rw [e1,HY (G7.mp hat).1];exact hat
  ·unfold bK
   split
   ·rfl
   ·split <;> rfl
  ·have hl:cs.length<=(ls.foldl (fq tops most) (LS.putIn cs (bK tops most cs l),ns++[(LS.putIn cs (bK tops most cs l)).idxOf (bK tops most cs l)])).1.length:=by rw [e1,em,GW,GW];omega
   generalize (ls.foldl (fq tops most) (LS.putIn cs (bK tops most cs l),ns++[(LS.putIn cs (bK tops most cs l)).idxOf (bK tops most cs l)])).1=cz at hl
   unfold bK
   by_cases h1:tops l.1
   ·rw [if_pos h1];exact .inr ⟨rfl,.inl h1⟩
   ·rw [if_neg h1]
    by_cases h2:l∈cs\/cs.length<most
    ·rw [if_pos h2];exact .inl ⟨h1,rfl⟩
    ·rw [if_neg h2];exact .inr ⟨rfl,.inr (by have:¬cs.length<most:=fun z=>h2 (.inr z);omega)⟩
def Gj (tops:Nat->Prop)(most:Nat)(ps:List Piece)(cs:List Cp)(outs:List Piece):Prop:=∀(j:Nat) (p:Piece),outs[j]?=some p->∃(c:Cp) (pc:Piece) (ns:List Nat),cs[j]?=some c/\ps[c.1]?=some pc/\p=(pc.1,jN pc.2 ns)/\Goes tops most cs (cQ (cw c.2 pc.1) pc.2) ns
structure rD (tops:Nat->Prop) (most:Nat) (xs:List Str) (ps:List Piece) (cs:List Cp) (outs:List Piece):Prop where
 mP:jm ps.length most cs
 ok:∀c∈cs,c.1<ps.length/\cA xs c.2
 le:outs.length<=cs.length
 rel:Gj tops most ps cs outs
theorem rD.step {xs:List Str}{ps:List Piece}{cs:List Cp}{outs:List Piece}{m:Nat}(h:rD tops most xs ps cs outs)(pok:cJ xs m ps){c:Cp}{pc:Piece}(hc:cs[outs.length]?=some c)(hp:ps[c.1]?=some pc) :
  rD tops most xs ps (cC tops most cs (cQ (cw c.2 pc.1) pc.2)).1 (outs++[(pc.1,jN pc.2 (cC tops most cs (cQ (cw c.2 pc.1) pc.2)).2)])/\∃more,(cC tops most cs (cQ (cw c.2 pc.1) pc.2)).1=cs++more:=by
 have hcm:=G9 hc
 have dok:=pok.fk _ (G9 hp)
 have eok:=pok.ends _ (G9 hp)
 have bok:=(h.ok c hcm).2.va dok.2
 obtain⟨k1,k2,_,_⟩:=iD (tops:=tops) (ls:=cQ (cw c.2 pc.1) pc.2) (ns:=[]) h.mP h.ok (xb bok eok)
 obtain⟨more,ms,e1,e2,g⟩:=oa (tops:=tops) (most:=most) (ls:=cQ (cw c.2 pc.1) pc.2) (cs:=cs) (ns:=[])
 have hol:outs.length<cs.length:=(G7.mp hc).1
 refine⟨⟨k1,k2,?_,?_⟩,more,e1⟩
 ·unfold cC
  rw [e1,GW,GW]
  show _+1<=_
  omega
 ·intro j p hj
  unfold cC
  by_cases hjl:j<outs.length
  ·rw [HY hjl] at hj
   obtain⟨c',pc',ns',h1,h2,h3,h4⟩:=h.rel j p hj
   refine⟨c',pc',ns',?_,h2,h3,?_⟩
   ·rw [e1,HY (by omega)];exact h1
   ·rw [e1];exact h4.more
  ·have hje:j=outs.length:=by
    have:=(G7.mp hj).1
    rw [GW] at this
    have:j<outs.length+1:=this
    omega
   subst hje
   rw [IF (GQ _),Nat.sub_self] at hj
   cases hj
   refine⟨c,pc,ms,?_,hp,?_,g⟩
   ·rw [e1,HY hol];exact hc
   ·unfold cC
    rw [e2]
    rfl
theorem sZ {xs:List Str}{ps:List Piece}{m:Nat}(pok:cJ xs m ps):∀(fu:Nat) {cs:List Cp} {outs:List Piece},rD tops most xs ps cs outs->fu+outs.length=most+ps.length ->
  rD tops most xs ps (fY tops most ps fu cs outs).1 (fY tops most ps fu cs outs).2/\(fY tops most ps fu cs outs).2.length=(fY tops most ps fu cs outs).1.length/\∃more,(fY tops most ps fu cs outs).1=cs++more
 | 0,cs,outs,h,hf=>by
  have:=h.mP.len fun c hc=>(h.ok c hc).1
  have:=h.le
  exact⟨h,by show outs.length=cs.length;omega,[],by show cs=_;simp⟩
 | fu+1,cs,outs,h,hf=>by
  cases hc:cs[outs.length]? with
  | none =>
   rw [sX hc]
   have:cs.length<=outs.length:=Jv.mp hc
   have:=h.le
   exact⟨h,by show outs.length=cs.length;omega,[],by simp⟩
  | some c =>
   have hcl:=(h.ok c (G9 hc)).1
   have hps:ps[c.1]?=some ps[c.1]:=by simp [hcl]
   rw [qf hc hps]
   obtain⟨h',more,e⟩:=h.step pok hc hps
   obtain⟨i1,i2,more',i3⟩:=sZ pok fu h' (by rw [GW];show fu+(_+1)=_;omega)
   exact⟨i1,i2,more++more',by rw [i3,e,HB]⟩
end
theorem kM {xs:List Str}{ps:List Piece}{m most:Nat}(pok:cJ xs m ps)(hn0:0<ps.length)(hm:1<=most) :
  rD (cZ ps) most xs ps (ft ps most).1 (ft ps most).2/\(ft ps most).2.length=(ft ps most).1.length/\∃more,(ft ps most).1=[gX ps]++more:=by
 refine sZ pok _ ⟨⟨by simp,GY (HV _ _) hm⟩,fun c hc=>?_,Hg _,fun j p hj=>(by cases hj)⟩ rfl
 rw [GR.mp hc]
 unfold gX
 split
 ·exact⟨hn0,cA.zero⟩
 ·exact⟨hn0,oV pok⟩
theorem Dn {xs:List Str}{n n':Nat}{e:End}{ns:List Nat}(h:jw xs n e)(hl:ns.length=1\/ns.length=(aR e).length)(hb:∀k∈ns,k<n'):jw xs n' (jN e ns):=by
 match ns,hl,hb with
 | [a],_,hb=>exact hb a (GR.mpr rfl)
 | [],hl,_ =>
  cases e with
  | stop=>exact True.intro
  | go p=>exact absurd (hl.resolve_left (by decide)) (by show ¬0=1;decide)
  | bu b x n p q=>exact absurd (hl.resolve_left (by decide)) (by show ¬0=2;decide)
 | [a,c],hl,hb =>
  have hl:=hl.resolve_left (by show ¬2=1;decide)
  cases e with
  | stop=>exact absurd hl (by show ¬2=0;decide)
  | go p=>exact absurd hl (by show ¬2=1;decide)
  | bu b x n p q=>exact⟨h.1,h.2.1,hb a (by simp),hb c (by simp)⟩
 | _::_::_::_,hl,_ =>
  exfalso
  have h3:(aR e).length<=2:=by cases e <;> (show _<=2) <;> simp [aR]
  simp only [Hq] at hl
  omega
theorem Goes.lt {tops:Nat->Prop}{most:Nat}{cs ls:List Cp}{ns:List Nat}(h:Goes tops most cs ls ns):∀k∈ns,k<cs.length:=by
 unfold Goes at h
 induction h with
 | nil=>intro k hk;cases hk
 | cons r _ ih =>
  intro k hk
  rcases GS.mp hk with rfl | hk
  ·obtain⟨c',h1,_⟩:=r
   exact (G7.mp h1).1
  ·exact ih k hk
theorem zQ {xs:List Str}{ps:List Piece}{m most:Nat}(pok:cJ xs m ps)(hn0:0<ps.length)(hm:1<=most):cJ xs m (ft ps most).2:=by
 obtain⟨I,hl,_⟩:=kM pok hn0 hm
 have key:∀p∈(ft ps most).2,(p.1.length<=m/\∀d∈p.1,fz xs d)/\jw xs (ft ps most).2.length p.2:=fun p hp=>by
  obtain⟨j,hj⟩:=List.getElem?_of_mem hp
  obtain⟨c,pc,ns,h1,h2,rfl,h4⟩:=I.rel j p hj
  have hpm:=G9 h2
  have bok:=(I.ok c (G9 h1)).2.va (pok.fk _ hpm).2
  refine⟨(show pc.1.length<=m/\∀d∈pc.1,fz xs d from pok.fk pc hpm),Dn (pok.ends _ hpm) ?_ (by rw [hl];exact h4.lt)⟩
  rw [<-Paired.length h4]
  exact (vb (e:=pc.2) bok).1
 exact⟨fun p hp=>(key p hp).1,fun p hp=>(key p hp).2⟩
theorem zR {xs:List Str}{ps:List Piece}{m most:Nat}(pok:cJ xs m ps)(hn0:0<ps.length)(hm:1<=most):0<(ft ps most).2.length/\(ft ps most).2.length<=most+ps.length:=by
 obtain⟨I,hl,more,e⟩:=kM pok hn0 hm
 have h1:=I.mP.len fun c hc=>(I.ok c hc).1
 rw [hl]
 refine⟨?_,h1⟩
 rw [e]
 exact Nat.succ_pos _
theorem cJ.up {xs:List Str}{m k:Nat}{ps:List Piece}(h:cJ xs m ps)(hk:m<=k):cJ xs k ps:=⟨fun p hp=>⟨GY (h.fk p hp).1 hk,(h.fk p hp).2⟩,h.ends⟩
section
variable {X:Cx}
end
def vd (e:End)(w:Str->Int):Option Nat:=match e with
 | .stop=>none
 | .go p=>some p
 | .bu b x n p q=>some (if fD b (w x) n=true then p else q)
theorem tf (S:RS)(e:End):nu S e=match vd e S.w with
  | none=>{ S with word := "stop" }
  | some p=>{ S with b5:=p,place:=0,bM:=S.bM++[p] }:=by
 cases e <;> rfl
theorem qg {w:Str->Int}:Sound T0 w:=fun x=>rfl
theorem Sound.ve {T:Str->Sx}{w w':Str->Int}{d:cf}(h:Sound T w)(hw:w' = match d with
  | .put x n=>dD w x n
  | .copy x y=>dD w x (w y)
  | .add x n=>dD w x (w x+n)
  | .tell _=>w
  | .read x=>dD w x (w' x)):Sound (q8 T d) w':=by
 cases d with
 | put x n=>rw [hw];exact h.step x (n:=n) (s:=(some n,some n)) (by simp [cK])
 | copy x y=>rw [hw];exact h.step x (h y)
 | add x n=>rw [hw];exact h.step x (Df (h x))
 | tell x =>
  rw [hw]
  have:=h.step x (n:=w x) (s:=T x) (h x)
  rw [sR] at this
  exact this
 | read x=>rw [hw];exact h.step x (s:=cE) rfl
theorem Dp {b:Bool}{lo hi:Option Int}{n u:Int}(h:cK u lo hi=true):∃s,fE (wT b) lo hi n (fD b u n)=some s/\cK u s.1 s.2=true:=by
 cases b with
 | true =>
  have ew:(wT true:Str) = "less" := rfl
  unfold fE
  rw [if_pos ew]
  unfold nv fD
  rw [if_pos rfl]
  by_cases hu:u<n
  ·rw [if_pos (decide_eq_true hu)]
   unfold gd jH
   cases lo <;> cases hi <;> simp only [cK,Hb,Ik,Bool.and_true,decide_eq_true_eq] at h ⊢
   ·exact⟨_,rfl,by simp [cK];omega⟩
   ·rename_i hh
    refine⟨_,rfl,?_⟩
    exact⟨rfl,decide_eq_true (by split <;> omega)⟩
   ·rw [if_neg (by omega)];refine⟨_,rfl,?_⟩;simp only [Hb,decide_eq_true_eq];omega
   ·rename_i l hh
    rw [if_neg (by split <;> omega)]
    refine⟨_,rfl,?_⟩
    simp only [Hb,decide_eq_true_eq]
    refine⟨h.1,?_⟩
    split <;> omega
  ·rw [if_neg (fun z=>hu (of_decide_eq_true z))]
   unfold ip jI
   cases lo <;> cases hi <;> simp only [cK,Hb,Ik,Bool.and_true,decide_eq_true_eq] at h ⊢
   ·exact⟨_,rfl,by simp [cK];omega⟩
   ·rw [if_neg (by omega)];refine⟨_,rfl,?_⟩;simp only [Hb,decide_eq_true_eq];omega
   ·rename_i l
    refine⟨_,rfl,?_⟩
    exact⟨decide_eq_true (by split <;> omega),rfl⟩
   ·rw [if_neg (by split <;> omega)]
    refine⟨_,rfl,?_⟩
    simp only [Hb,decide_eq_true_eq]
    refine⟨?_,h.2⟩
    split <;> omega
 | false =>
  have ew:¬(wT false:Str) = "less" := by decide +kernel
  unfold fE
  rw [if_neg ew]
  unfold wK
  have ea:fD false u n=decide (u=n):=rfl
  rw [ea]
  by_cases hu:u=n
  ·subst hu
   rw [if_pos (decide_eq_true rfl)]
   unfold sA
   rw [if_pos h]
   exact⟨_,rfl,by simp [cK]⟩
  ·rw [if_neg (fun z=>hu (of_decide_eq_true z))]
   unfold jJ
   by_cases h1:lo=some n
   ·subst h1
    by_cases h2:hi=some n
    ·subst h2
     simp only [cK,Hb,decide_eq_true_eq] at h
     omega
    ·rw [if_pos rfl,if_neg h2]
     refine⟨_,rfl,?_⟩
     simp only [cK,Hb,decide_eq_true_eq] at h ⊢
     exact⟨by omega,h.2⟩
   ·rw [if_neg h1]
    by_cases h2:hi=some n
    ·subst h2
     rw [if_pos rfl]
     refine⟨_,rfl,?_⟩
     simp only [cK,Hb,decide_eq_true_eq] at h ⊢
     exact⟨h.1,by omega⟩
    ·rw [if_neg h2]
     exact⟨_,rfl,h⟩
theorem Sound.cut {T:Str->Sx}{w:Str->Int}(h:Sound T w){x:Str}{s:Sx}(hs:cK (w x) s.1 s.2=true):Sound (cm T x s) w:=by
 have:=h.step x hs
 rw [sR] at this
 exact this
theorem vf {T:Str->Sx}{b:Bool}{x:Str}{n:Int}{q r:Nat}:cQ T (.bu b x n q r)=((dJ T b x n true).map fun s=>(q,cm T x s)).toList++((dJ T b x n false).map fun s=>(r,cm T x s)).toList:=by
 unfold cQ
 show ([(q,(dJ T b x n true).map (cm T x)),(r,(dJ T b x n false).map (cm T x))].filterMap fun p=>p.2.map fun U=>(p.1,U))=_
 cases dJ T b x n true <;> cases dJ T b x n false <;> rfl
def yf (ps other:List Piece)(cs:List Cp):Prop:=∀(j:Nat) (p:Piece),other[j]?=some p->∃(c:Cp) (pc:Piece),cs[j]?=some c/\ps[c.1]?=some pc/\p.1=pc.1/\∀w,Sound (cw c.2 pc.1) w ->
 match vd pc.2 w with
 | none=>vd p.2 w=none
 | some q=>∃(k:Nat) (c':Cp),vd p.2 w=some k/\k<other.length/\cs[k]?=some c'/\c'.1=q/\Sound c'.2 w
structure jn (ps other:List Piece) (cs:List Cp) (S S':RS):Prop where
 place:S.place=S'.place
 w:S.w=S'.w
 taken:S.taken=S'.taken
 told:S.told=S'.told
 word:S.word=S'.word
 bM:S'.bM.map (fun j=>(cs[j]?).map (·.1))=S.bM.map some
 lt:S'.b5<other.length
 at_:∃(c:Cp) (pc p:Piece),cs[S'.b5]?=some c/\ps[c.1]?=some pc/\S.b5=c.1/\other[S'.b5]?=some p/\p.1=pc.1/\Sound (cw c.2 (pc.1.take S.place)) S.w
theorem yg {T:Str->Sx}{ds:List cf}{d:cf}:cw T (ds++[d])=q8 (cw T ds) d:=by
 unfold cw
 rw [Jh]
 rfl
theorem jn.step {ps other:List Piece}{cs:List Cp}{nums:List Int}{S S':RS}(hp:yf ps other cs)(h:jn ps other cs S S')(hin:∀c∈cs,c.1<ps.length):jn ps other cs (d6 ps nums S) (d6 other nums S'):=by
 obtain⟨h1,h2,h3,h4,h5,h6,h7,c,pc,p,a1,a2,a3,a4,a5,a6⟩:=h
 obtain⟨ds,e⟩:=pc
 obtain⟨ds',e'⟩:=p
 have a5:ds' = ds:=a5
 subst a5
 cases hd:ds'[S.place]? with
 | some dd =>
  rw [jy (by rw [a3];exact a2) hd,jy a4 (by rw [<-h1];exact hd)]
  have htk:ds'.take (S.place+1)=ds'.take S.place++[dd]:=by rw [Hi,hd];rfl
  have nx:∀w',Sound (q8 (cw c.2 (ds'.take S.place)) dd) w'->Sound (cw c.2 (ds'.take (S.place+1))) w':=fun w' hw=>by rw [htk,yg];exact hw
  cases dd with
  | put x n=>exact⟨by show S.place+1=S'.place+1;rw [h1],by show dD S.w x n=dD S'.w x n;rw [h2],h3,h4,h5,h6,h7,c,(ds',e),(ds',e'),a1,a2,a3,a4,rfl,nx _ (Sound.ve (d:=.put x n) a6 rfl)⟩
  | copy x y=>exact⟨by show S.place+1=S'.place+1;rw [h1],by show dD S.w x (S.w y)=dD S'.w x (S'.w y);rw [h2],h3,h4,h5,h6,h7,c,(ds',e),(ds',e'),a1,a2,a3,a4,rfl,nx _ (Sound.ve (d:=.copy x y) a6 rfl)⟩
  | add x n=>exact⟨by show S.place+1=S'.place+1;rw [h1],by show dD S.w x (S.w x+n)=dD S'.w x (S'.w x+n);rw [h2],h3,h4,h5,h6,h7,c,(ds',e),(ds',e'),a1,a2,a3,a4,rfl,nx _ (Sound.ve (d:=.add x n) a6 rfl)⟩
  | tell x=>exact⟨by show S.place+1=S'.place+1;rw [h1],h2,h3,by show S.told++[S.w x]=S'.told++[S'.w x];rw [h4,h2],h5,h6,h7,c,(ds',e),(ds',e'),a1,a2,a3,a4,rfl,nx _ (Sound.ve (d:=.tell x) a6 rfl)⟩
  | read x =>
   unfold nq
   rw [<-h3]
   cases hn:nums[S.taken]? with
   | none=>exact⟨h1,h2,rfl,h4,rfl,h6,h7,c,(ds',e),(ds',e'),a1,a2,a3,a4,rfl,a6⟩
   | some n =>
    refine⟨by show S.place+1=S'.place+1;rw [h1],by show dD S.w x n=dD S'.w x n;rw [h2],by show S.taken+1=S.taken+1;rfl,h4,h5,h6,h7,c,(ds',e),(ds',e'),a1,a2,a3,a4,rfl,nx _ (Sound.ve (d:=.read x) a6 ?_)⟩
    show dD S.w x n=dD S.w x (dD S.w x n x)
    congr 1
    unfold dD
    rw [if_pos rfl]
 | none =>
  rw [kF (by rw [a3];exact a2) hd,kF a4 (by rw [<-h1];exact hd),tf,tf]
  have hge:ds'.length<=S.place:=Jv.mp hd
  rw [Iw hge] at a6
  obtain⟨c2,pc2,b1,b2,b3,b4⟩:=hp _ _ a4
  rw [a1] at b1
  cases b1
  rw [a2] at b2
  cases b2
  have b4:=b4 S.w a6
  dsimp only at b4
  cases hx:vd e S.w with
  | none =>
   rw [hx] at b4
   dsimp only at b4
   rw [show vd e' S'.w=none by rw [<-h2];exact b4]
   exact⟨h1,h2,h3,h4,rfl,h6,h7,c,(ds',e),(ds',e'),a1,a2,a3,a4,rfl,by rw [Iw hge];exact a6⟩
  | some q =>
   rw [hx] at b4
   obtain⟨k,c',g1,g2,g3,g4,g5⟩:=b4
   rw [show vd e' S'.w=some k by rw [<-h2];exact g1]
   have hcl:=hin c' (G9 g3)
   have hps:ps[c'.1]?=some ps[c'.1]:=by simp [hcl]
   have aW:other[k]?=some other[k]:=by simp [g2]
   obtain⟨c3,pc3,f1,f2,f3,_⟩:=hp _ _ aW
   rw [g3] at f1
   cases f1
   refine⟨rfl,h2,h3,h4,h5,?_,g2,c',pc3,other[k],g3,f2,g4.symm,aW,f3,?_⟩
   ·show (S'.bM++[k]).map _=(S.bM++[q]).map some
    rw [G3,G3,h6]
    show _++[(cs[k]?).map (·.1)]=_
    rw [g3,<-g4]
    rfl
   ·show Sound (cw c'.2 (pc3.1.take 0)) S.w
    rw [List.take_zero]
    exact g5
theorem jn.walk {ps other:List Piece}{cs:List Cp}{nums:List Int}{S S':RS}(hp:yf ps other cs)(hin:∀c∈cs,c.1<ps.length)(h:jn ps other cs S S'):∀n,jn ps other cs (b8 ps nums n S) (b8 other nums n S')
 | 0=>h
 | n+1=>by
  have ih:=jn.walk (nums:=nums) hp hin h n
  show jn ps other cs (j6 ps nums (b8 ps nums n S)) (j6 other nums (b8 other nums n S'))
  unfold j6
  rw [<-ih.word]
  split
  ·exact ih.step hp hin
  ·exact ih
theorem zS {ps other:List Piece}{cs:List Cp}{c:Cp}(hp:yf ps other cs)(h0:0<other.length)(hc:cs[0]?=some c)(hc1:c.1=0)(hs:Sound c.2 fun _=>0):jn ps other cs (cU 0 fun _=>0) (cU 0 fun _=>0):=by
 have ho:other[0]?=some other[0]:=by simp [h0]
 obtain⟨c2,pc,b1,b2,b3,_⟩:=hp _ _ ho
 rw [hc] at b1
 cases b1
 refine⟨rfl,rfl,rfl,rfl,rfl,?_,h0,c,pc,other[0],hc,b2,hc1.symm,ho,b3,?_⟩
 ·show [(cs[0]?).map (·.1)]=[some 0]
  rw [hc]
  show [some c.1]=_
  rw [hc1]
 ·show Sound (cw c.2 (pc.1.take 0)) _
  rw [List.take_zero]
  exact hs
theorem oX:∀ds:List PyData,(∀d∈ds,d.canLay0=true)->(PyData.list ds).canLay0=true
 | [],_=>rfl
 | d::ds,h=>by
  have ih:=oX ds fun x hx=>h x (G1 _ hx)
  show (d.canLay0&&(PyData.list ds).canLay0)=true
  rw [h d (GZ ..),ih];rfl
theorem rE {H:Hp}:∀ns:List Nat,aX H (ns.map fun k=>V.int (k:Nat)) (ns.map fun k=>PyData.int (k:Nat))
 | []=>.nil
 | n::ns=>.cons (.int n) (rE ns)
theorem zT {ps:List Piece}{nums:List Int}{S:RS}(hp:cT ps)(h:S.b5<ps.length)(hb:∀j∈S.bM,j<ps.length):∀j∈(d6 ps nums S).bM,j<ps.length:=by
 have hx:ps[S.b5]?=some ps[S.b5]:=by simp [h]
 generalize hpc:ps[S.b5]=pc at hx
 obtain⟨ds,e⟩:=pc
 have hm:(ds,e)∈ps:=G9 hx
 cases hd:ds[S.place]? with
 | some dd =>
  rw [jy hx hd]
  cases dd with
  | read x =>
   unfold nq
   cases hn:nums[S.taken]? with
   | none=>exact hb
   | some n=>exact hb
  | _=>exact hb
 | none =>
  rw [kF hx hd]
  have hq:=hp (ds,e) hm
  cases e with
  | stop=>exact hb
  | go q =>
   intro j hj
   rcases Hd.mp hj with hj | hj
   ·exact hb j hj
   ·rw [GR.mp hj];exact hq
  | bu b x n q r =>
   intro j hj
   rcases Hd.mp hj with hj | hj
   ·exact hb j hj
   ·rw [GR.mp hj]
    split
    ·exact hq.1
    ·exact hq.2
theorem xf {ps:List Piece}{nums:List Int}(hp:cT ps)(h0:0<ps.length):∀n,∀j∈(b8 ps nums n (cU 0 fun _=>0)).bM,j<ps.length
 | 0=>fun j hj=>by rw [GR.mp hj];exact h0
 | n+1=>by
  have ih:=xf (nums:=nums) hp h0 n
  have wi:=qS (ps:=ps) (nums:=nums) (S:=cU 0 fun _=>0) hp h0 (Hg _) n
  show ∀j∈(j6 ps nums (b8 ps nums n (cU 0 fun _=>0))).bM,j<ps.length
  unfold j6
  split
  ·exact zT hp wi.1 ih
  ·exact ih
theorem xg {X:Cx}{K:GP}(h:X.K=K):wz X (Av K):=by subst h;exact aN
theorem h9 {X:Cx}{e1 e2 e3 e4 e5 e6 e7:Expr}{t1 t2 t3 t4 t5 t6 t7:TE}(h1:PE X e1 t1)(h2:PE X e2 t2)(h3:PE X e3 t3)(h4:PE X e4 t4)(h5:PE X e5 t5)(h6:PE X e6 t6)(h7:PE X e7 t7)
  (s1:starEach [e1,e2,e3,e4,e5,e6,e7] X.env=(false,eval e1 X.env)::starEach [e2,e3,e4,e5,e6,e7] X.env:=by rfl) (s2:starEach [e2,e3,e4,e5,e6,e7] X.env=(false,eval e2 X.env)::starEach [e3,e4,e5,e6,e7] X.env:=by rfl) (s3:starEach [e3,e4,e5,e6,e7] X.env=(false,eval e3 X.env)::starEach [e4,e5,e6,e7] X.env:=by rfl) (s4:starEach [e4,e5,e6,e7] X.env=(false,eval e4 X.env)::starEach [e5,e6,e7] X.env:=by rfl) (s5:starEach [e5,e6,e7] X.env=(false,eval e5 X.env)::starEach [e6,e7] X.env:=by rfl) (s6:starEach [e6,e7] X.env=(false,eval e6 X.env)::starEach [e7] X.env:=by rfl) (s7:starEach [e7] X.env=(false,eval e7 X.env)::starEach [] X.env:=by rfl) :
  PA X [e1,e2,e3,e4,e5,e6,e7] (iN t1 (iN t2 (iN t3 (iN t4 (iN t5 (iN t6 (iN t7 xD))))))):=(aa h1 (aa h2 (aa h3 (aa h4 (aa h5 (aa h6 (aa h7 ae s7) s6) s5) s4) s3) s2) s1)
theorem zU {a b:Option Int}{n:Int}:(match a with | none=>true | some a=>decide (a<=n))=true->jM a b=true->(match b with | none=>true | some a=>decide (a<=n))=true:=by
 intro hl h
 cases b with
 | none=>rfl
 | some b =>
  cases a with
  | none=>cases h
  | some a =>
   have h1:b<=a:=of_decide_eq_true h
   have h2:a<=n:=of_decide_eq_true hl
   exact decide_eq_true (by omega)
theorem yh {a b:Option Int}{n:Int}:(match a with | none=>true | some a=>decide (n<=a))=true->iq a b=true->(match b with | none=>true | some a=>decide (n<=a))=true:=by
 intro hl h
 cases b with
 | none=>rfl
 | some b =>
  cases a with
  | none=>cases h
  | some a =>
   have h1:a<=b:=of_decide_eq_true h
   have h2:n<=a:=of_decide_eq_true hl
   exact decide_eq_true (by omega)
theorem By {s t:Sx}{n:Int}(h:jE s t=true)(hl:cK n s.1 s.2=true):cK n t.1 t.2=true:=by
 unfold jE at h
 unfold cK at hl ⊢
 rw [Hb] at h hl ⊢
 exact⟨zU hl.1 h.1,yh hl.2 h.2⟩
theorem Sound.wide {T U:Str->Sx}{w:Str->Int}(h:Sound T w)(hu:∀x,jE (T x) (U x)=true):Sound U w:=fun x=>By (hu x) (h x)
section
variable {X:Cx}{pos:Pos}
end
section
variable {X:Cx}
end
section
variable {X:Cx}
end
theorem gi {α β : Type}{F:α->β->Prop}:∀{l:List α} {m:List β},Paired F l m->∀{i:Nat} {y:β},m[i]?=some y->∃x,l[i]?=some x/\F x y
 | _,_,.nil,i,y,h=>by simp at h
 | _,_,.cons f t,0,y,h=>by cases h;exact⟨_,rfl,f⟩
 | _,_,.cons f t,i+1,y,h=>gi t h
theorem fw {α β : Type}{F:α->β->Prop}:∀{l:List α} {m:List β},Paired F l m->l.length=m.length
 | _,_,.nil=>rfl
 | _,_,.cons f t=>congrArg (· + 1) (fw t)
theorem qh {α β : Type}{F:α->β->Prop}{x:α}{y:β}(f:F x y):∀{l:List α} {m:List β} (i:Nat),Paired F l m->Paired F (l.set i x) (m.set i y)
 | _,_,_,.nil=>.nil
 | _,_,0,.cons _ t=>.cons f t
 | _,_,i+1,.cons g t=>.cons g (qh f i t)
theorem iV {n i:Nat}(h:i<n):me n (i:Int)=some i:=by
 unfold me
 simp
 omega
section
variable {X:Cx}
def EJ:V->List V->Hp->VK->Prop:=fun x vs H Q=>∃(l:Addr) (xs:List V) (z:Int) (k:Nat) (y:V),x=.ref l/\vs=[.int z,y]/\z=(k:Int)/\H l=some (.lst xs)/\k<=xs.length/\xs.length<1000000/\Q .bC (upd H l (.lst (xs.take k++y::xs.drop k)))
theorem Bz:um X "list.insert" EJ:=by
 intro pins s GK H x vs v us Q I rx rv h
 obtain⟨l,xs,zi,k,y,rfl,rfl,hzk,hH,hk,hz,q⟩:=h
 cases rx
 cases rv with
 | cons ru1 rv1 =>
  obtain⟨u2,rfl,ru2⟩:=vals1 rv1
  obtain⟨t,rfl⟩:=ru1
  obtain⟨z,its,n,r,hl,e⟩:=I.mf hH
  have hfit:¬(!Builtin.List.listFitsIndex zi)=true:=by
   rw [fitsIndex_both (by omega) (by omega)]
   exact He
  have hsz:its.toArray.size<=sizeLine:=by rw [Ha];omega
  have M:=AutoSeq1.list_insert_list_int_val_1 l its.toArray n zi t u2 hfit hsz
  refine call_meets F.slot_list_insert ⟨_,e,rfl⟩ F.entry_list_insert (F.args_list_insert_3 _ _ _) M ⟨e,?_⟩
  have ek:(if zi<0 then (zi+(its.toArray.size:Int)).toNat else min zi.toNat its.toArray.size)=k:=by
   rw [if_neg (by omega),Ha]
   omega
  have ex:(its.toArray.extract 0 k).push u2++its.toArray.extract k=(its.take k++u2::its.drop k).toArray:=by
   apply Array.toList_inj.mp
   simp
   rw [Iw (by rw [Io];exact GQ _)]
  refine⟨.bC,_,I.uo (its':=its.take k++u2::its.drop k) hH e ?_ ((r.take k).append (.cons ru2 (r.drop k))) ?_,rfl,q⟩
  ·show (its.toArray.extract 0 (if zi<0 then (zi+(its.toArray.size:Int)).toNat else min zi.toNat its.toArray.size)).push u2++its.toArray.extract (if zi<0 then (zi+(its.toArray.size:Int)).toNat else min zi.toNat its.toArray.size)=_
   rw [ek,ex]
  ·rw [GW,Hq,Hm,Io]
   have:sizeLine=16777216\/1000000<sizeLine:=.inr (by decide)
   omega
end
section
variable {X:Cx}
theorem EK {a b e:Expr}{p:Pos}{line:Nat}{env:Env}:swapsWithSole [.Subscript a b p] e line env=pure false:=by
 cases e <;> rfl
theorem EL {a b e:Expr}{p:Pos}{env:Env}:swappedStores [.Subscript a b p] e env=pure none:=by
 cases e <;> rfl
theorem kh {a b e:Expr}{te:TE}{g:TG}{p pos:Pos}(he:PE X e te)(hg:PG X (.Subscript a b p) g):PS X (.Assign [.Subscript a b p] e pos) (xp te g):=cN he hg EK EL rfl
end
def qi:Sp:=fun vs H Q _=>∃(fv:V) (T:Str->Sx) (m:Nat),vs=[fv]/\FV H fv T/\gP T m/\m<=60/\∀d' H',H d' = none->LT H' d' T m->ao H H'->Q (.ref d') H'
def tj:Sp:=fun vs H Q _=>∃(b:Addr) (fv:V) (T:Str->Sx) (xs:List Str),vs=[.ref b,fv]/\bU H b/\FV H fv T/\cA xs T/\("zz" : Str)∈xs/\xs.length<=50/\∀v T' H',FV H' v T'->cA xs T'->bU H' b->Fix b H H'->Q v H'
theorem og {α β : Type}{F:α->β->Prop}:∀{l:List α} {m:List β} (k:Nat),Paired F l m->Paired F (l.take k) (m.take k)
 | _,_,0,_=>.nil
 | _,_,_+1,.nil=>.nil
 | _,_,k+1,.cons f t=>.cons f (og k t)
theorem oh {α β : Type}{F:α->β->Prop}:∀{l:List α} {m:List β} (k:Nat),Paired F l m->Paired F (l.drop k) (m.drop k)
 | _,_,0,h=>h
 | _,_,_+1,.nil=>.nil
 | _,_,k+1,.cons _ t=>oh k t
theorem ki {c:Bool}{A B C:Prop}(hz:C)(hx:C->c=true->A):if c=true then A else (if false=true then B else C):=by
 cases c
 ·exact hz
 ·exact hx hz rfl
theorem Fm {c:Bool}{A B C:Prop}(ha:A)(hy:A->c=false->C):if c=true then (if true=true then A else B) else C:=by
 cases c
 ·exact hy ha rfl
 ·exact ha
theorem lJ {α β : Type}{F:α->β->Prop}:∀{l:List α} {m:List β} (i:Nat),Paired F l m->Paired F (l.eraseIdx i) (m.eraseIdx i)
 | _,_,_,.nil=>.nil
 | _,_,0,.cons _ t=>t
 | _,_,i+1,.cons f t=>.cons f (lJ i t)
theorem cJ.EM {xs:List Str}{m:Nat}{ps:List Piece}(h:cJ xs m ps)(ys:List Str):cJ (xs++ys) m ps:=by
 have l:∀{x},x∈xs->x∈xs++ys:=fun h=>Hv _ h
 refine⟨fun p hp=>⟨(h.fk p hp).1,fun d hd=>?_⟩,fun p hp=>?_⟩
 ·have:=(h.fk p hp).2 d hd
  cases d with
  | put x n=>exact⟨l this.1,this.2⟩
  | copy x y=>exact⟨l this.1,l this.2⟩
  | add x n=>exact⟨l this.1,this.2⟩
  | read x=>exact l this
  | tell x=>exact l this
 ·have:=h.ends p hp
  obtain⟨ds,e⟩:=p
  cases e with
  | stop=>exact True.intro
  | go q=>exact this
  | bu b x n q r=>exact⟨l this.1,this.2⟩
theorem cA.EM {xs:List Str}{T:Str->Sx}(h:cA xs T)(ys:List Str):cA (xs++ys) T:=⟨fun x hx=>Hv _ (h.sup x hx),h.le⟩
section
variable {prog:Program}{w:World}{A:Around}{E:Value->Shared->Prop}{s:Shared}
end
section
variable {X:Cx}{pins:List (Addr×Obj)}{GK : List (Option V)}{H:Hp}{s:Shared}
end
section
variable {X:Cx}{pos:Pos}
end
section
variable {X:Cx}{pos:Pos}
end
section
variable {X:Cx}{pos:Pos}
end
section
variable {X:Cx}{K:GP}
end
section
variable {X:Cx}
end
end L2
namespace LS
open PySem PySem.Spec PyProof.Rows L2
section
variable {prog:Program}{w:World}{A:Around}{E:Value->Shared->Prop}{s:Shared}{I l:Addr}{its:Array Value}
end
section
variable {prog:Program}{w:World}{A:Around}{E:Value->Shared->Prop}{s:Shared}{I l:Addr}{its:Array Value}
end
end LS
namespace L2
open PySem PySem.Spec PyProof.Rows
section
variable {X:Cx}
end
end L2
namespace LS
open PySem PySem.Spec PyProof.Rows L2
section
variable {prog:Program}{w:World}{K:Type}[DecidableEq K]{knd:KeyKind prog w K}
variable {A:Around}{E:Value->Shared->Prop}{s:Shared}{a:Addr}{ks:List K}
end
section
variable {prog:Program}{w:World}{A:Around}{E:Value->Shared->Prop}{s:Shared}
end
end LS
namespace L2
open PySem PySem.Spec PyProof.Rows LS
section
variable {X:Cx}
end
end L2
namespace HT
open PySem PySem.Spec PyProof.Rows
section
variable {prog:Program}{w:World}{A:Around}{E:Value->Shared->Prop}{s:Shared}
end
end HT
namespace L2
open PySem PySem.Spec PyProof.Rows LS
section
variable {X:Cx}
end
section
variable {prog:Program}{w:World}{A:Around}{E:Value->Shared->Prop}{s:Shared}
end
section
variable {X:Cx}
end
section
variable {X:Cx}
end
def bQ:End->List PyData
 | .stop=>[.str "stop"]
 | .go _=>[.str "go"]
 | .bu b x n _ _=>[.str (wT b),.str x,.int n]
section
variable {ps:List Piece}{a b:Nat}{p q:Piece}
end
section
variable {X:Cx}{P:Program}{w:World}
end
theorem xh:∀{ds:List PyData},(∀d∈ds,eF d=true)->dm ds=true
 | [],_=>rfl
 | d::ds,h=>by show (eF d&&dm ds)=true;rw [h d (GZ ..),xh fun x hx=>h x (G1 _ hx)];rfl
theorem BA (d:cf):eF (bG d)=true:=by cases d <;> rfl
theorem zV (ds:List cf):dm (ds.map bG)=true:=xh fun d hd=>by obtain⟨x,_,rfl⟩:=G4.mp hd;exact BA x
theorem BB (e:End):dm (bQ e)=true:=by cases e <;> rfl
theorem yi {e:End}(h:(eD e).canLay0=true):(PyData.tuple (bQ e)).canLay0=true:=by
 refine dC _ fun d hd=>?_
 cases e with
 | stop=>rw [GR.mp hd];decide +kernel
 | go p=>rw [GR.mp hd];decide +kernel
 | bu b x n p q =>
  have h:((PyData.str (wT b)).canLay0&&((PyData.str x).canLay0&&_))=true:=h
  rw [Hb,Hb] at h
  rcases GS.mp hd with rfl | hd
  ·exact h.1
  rcases GS.mp hd with rfl | hd
  ·exact h.2.1
  rw [GR.mp hd];rfl
theorem xi {H:Hp}(e:End):aX H (jD e) (bQ e):=by
 cases e with
 | stop=>exact .cons (.str _) .nil
 | go p=>exact .cons (.str _) .nil
 | bu b x n p q=>exact .cons (.str _) (.cons (.str _) (.cons (.int _) .nil))
theorem vg {x y:PyData}(hx:gN x)(hy:gN y):PyData.eqv x y=decide (x=y):=by
 have h:=q9 hx.key hy.key
 by_cases e:x=y
 ·rw [decide_eq_true e,h,e]
 ·rw [decide_eq_false e]
  exact Jj.mpr fun z=>e (h.mp z)
section
variable {P:Program}{w:World}{H H':Hp}{d:Addr}{n:Nat}{us:List ((Nat×Nat)×Addr)}
end
theorem take1 {α : Type}{ds:List α}{i:Nat}{d:α}(h:ds[i]?=some d):ds.take (i+1)=ds.take i++[d]:=by rw [Hi,h];rfl
theorem rF {ps:List Piece}(hin:cT ps){p:Piece}(hp:p∈ps){k:Nat}(hk:k∈aR p.2):k<ps.length:=by
 have h1:=hin p hp
 obtain⟨ds,e⟩:=p
 cases e with
 | stop=>cases hk
 | go p=>rw [GR.mp hk];exact h1
 | bu b x n p p2 =>
  rcases GS.mp hk with z | z
  ·rw [z];exact h1.1
  ·rw [GR.mp z];exact h1.2
section
variable (P:Program)(w:World)
end
theorem vh {X:Cx}{K:GP}(h:X.K=K):wz X (Av K):=by subst h;exact aN
section
variable {X:Cx}
end
section
variable {X:Cx}
end
section
variable {ps:List Piece}
end
theorem BC (e:End):eV (cx e) 0=some (V.str (wE e)):=by cases e <;> exact bW
section
variable {X:Cx}
end
theorem aX.setAt {H:Hp}{v:V}{d:PyData}(r:aY H v d):∀{xs:List V} {ds:List PyData} (j:Nat),aX H xs ds->aX H (xs.set j v) (ds.set j d)
 | _,_,_,.nil=>.nil
 | _,_,0,.cons _ rs=>.cons r rs
 | _,_,j+1,.cons q rs=>.cons q (aX.setAt r j rs)
section
variable {prog:Program}{w:World}{A:Around}{E:Value->Shared->Prop}{s:Shared}
end
section
variable {X:Cx}
end
abbrev Fv:=(Nat×Nat)×List Str
section
variable {ps:List Piece}{ms:List Fv}{at_ f:Nat}{x:Fv}{p q:Piece}
end
section
variable (P:Program)(w:World)
end
section
variable {X:Cx}
end
def md (n x:Nat):Nat:=if x<n then x else x-n
section
variable {n odd a b i j:Nat}
end
open AutoSeq1 (wpAny_loadPart')
section
variable {prog:Program}{w:World}{A:Around}{E:Value->Shared->Prop}{s:Shared}
end
section
variable {prog:Program}{w:World}{A:Around}{E:Value->Shared->Prop}{s:Shared}
end
section
variable {X:Cx}
end
section
variable {ps qs:List Piece}{src:List Nat}
end
abbrev Pp:=Int×(Str->Sx)
def oi (H:Hp)(v:V)(c:Pp):Prop:=∃q u,v=.ref q/\H q=some (.tup [.int c.1,u])/\FV H u c.2
abbrev cF (H:Hp)(vs:List V)(cs:List Pp):Prop:=Paired (oi H) vs cs
theorem oi.aK {H H':Hp}{v:V}{c:Pp}(h:oi H v c)(k:∀p xs,H p=some (.tup xs)->H' p=some (.tup xs)):oi H' v c:=by
 obtain⟨q,u,e,h1,h2⟩:=h
 exact⟨q,u,e,k _ _ h1,h2.aK k⟩
theorem cF.aK {H H':Hp}(k:∀p xs,H p=some (.tup xs)->H' p=some (.tup xs)):∀{vs:List V} {cs:List Pp},cF H vs cs->cF H' vs cs
 | _,_,.nil=>.nil
 | _,_,.cons h t=>.cons (h.aK k) (cF.aK k t)
theorem cF.same {H H':Hp}{vs:List V}{cs:List Pp}(h:cF H vs cs)(s:ao H H'):cF H' vs cs:=h.aK fun p xs e=>s _ _ e
def Mt (paper:List Pp)(at_ w:Nat)(U:Str->Sx):Prop:=∃c,paper[at_]?=some c/\c.1=(w:Int)/\∀x,jE (U x) (c.2 x)=true
def jF (paper:List Pp)(T:Str->Sx):End->End->Prop
 | .stop,.stop=>True
 | .go p,.go q=>Mt paper q p T
 | .bu b x n p q,.go r=>∃ld,cQ T (.bu b x n p q)=[ld]/\Mt paper r ld.1 ld.2
 | .bu b x n p q,.bu b' x' n' p' q'=>(b=b'/\x=x'/\n=n')/\(∀U,(dJ T b x n true).map (cm T x)=some U->Mt paper p' p U)/\∀U,(dJ T b x n false).map (cm T x)=some U->Mt paper q' q U
 | _,_=>False
structure iP (ps qs:List Piece) (paper:List Pp):Prop where
 len:paper.length=qs.length
 Cu:∀c∈paper,0<=c.1/\c.1<ps.length
 first:∃c,paper[0]?=some c/\c.1=0/\Sound c.2 (fun _=>0)
 all:∀(k:Nat) (c:Pp) (p q:Piece),paper[k]?=some c->ps[c.1.toNat]?=some p->qs[k]?=some q->p.1=q.1/\jF paper (cw c.2 p.1) p.2 q.2
theorem zW {d e:cf}(h:bG d=bG e):d=e:=by
 have w:∀{a b:Str} {r r':List PyData},PyData.tuple (.str a::r)=PyData.tuple (.str b::r')->a=b/\r=r':=fun h=>by
  injection h with h
  injection h with h1 h2
  injection h1 with h1
  exact⟨h1,h2⟩
 have s1:∀{x y:Str} {r r':List PyData},PyData.str x::r=PyData.str y::r'->x=y/\r=r':=fun h=>by
  injection h with h1 h2
  injection h1 with h1
  exact⟨h1,h2⟩
 have i1:∀{x y:Int} {r r':List PyData},PyData.int x::r=PyData.int y::r'->x=y/\r=r':=fun h=>by
  injection h with h1 h2
  injection h1 with h1
  exact⟨h1,h2⟩
 cases d <;> cases e <;> first
  | (obtain⟨h1,h2⟩:=w h;exact absurd h1 (by decide +kernel))
  | skip
 ·obtain⟨_,h2⟩:=w h;obtain⟨rfl,h3⟩:=s1 h2;obtain⟨rfl,_⟩:=i1 h3;rfl
 ·obtain⟨_,h2⟩:=w h;obtain⟨rfl,h3⟩:=s1 h2;obtain⟨rfl,_⟩:=s1 h3;rfl
 ·obtain⟨_,h2⟩:=w h;obtain⟨rfl,h3⟩:=s1 h2;obtain⟨rfl,_⟩:=i1 h3;rfl
 ·obtain⟨_,h2⟩:=w h;obtain⟨rfl,h3⟩:=s1 h2;rfl
 ·obtain⟨_,h2⟩:=w h;obtain⟨rfl,h3⟩:=s1 h2;rfl
theorem qm:∀{ds es:List cf},ds.map bG=es.map bG->ds=es
 | [],[],_=>rfl
 | [],_::_,h=>nomatch h
 | _::_,[],h=>nomatch h
 | d::ds,e::es,h=>by
  injection h with h1 h2
  rw [zW h1,qm h2]
theorem EN {b b':Bool}(h:wT b=wT b'):b=b':=by
 cases b <;> cases b' <;> first | rfl | exact absurd h (by decide +kernel)
theorem tm {f:End}:bQ .stop=bQ f↔f=.stop:=by
 constructor
 ·intro h
  cases f with
  | stop=>rfl
  | go q=>injection h with h _;injection h with h;exact absurd h (by decide +kernel)
  | bu b x n p q=>injection h with _ h;cases h
 ·intro h;rw [h]
theorem xj {p:Nat}{f:End}:bQ (.go p)=bQ f↔∃q,f=.go q:=by
 constructor
 ·intro h
  cases f with
  | stop=>injection h with h _;injection h with h;exact absurd h (by decide +kernel)
  | go q=>exact⟨q,rfl⟩
  | bu b x n p q=>injection h with _ h;cases h
 ·rintro⟨q,rfl⟩;rfl
theorem vi {b:Bool}{x:Str}{n:Int}{p q:Nat}{f:End}:bQ (.bu b x n p q)=bQ f↔∃p' q',f=.bu b x n p' q':=by
 constructor
 ·intro h
  cases f with
  | stop=>injection h with _ h;cases h
  | go q=>injection h with _ h;cases h
  | bu b' x' n' p' q' =>
   injection h with h1 h
   injection h with h2 h
   injection h with h3 _
   injection h1 with h1
   injection h2 with h2
   injection h3 with h3
   rw [EN h1,h2,h3]
   exact⟨p',q',rfl⟩
 ·rintro⟨p',q',rfl⟩;rfl
theorem qo {paper:List Pp}{T:Str->Sx}{e f:End}(h:bQ e=bQ f):jF paper T e f↔∀(i w a:Nat) (U:Str->Sx),(aR e)[i]?=some w->(gQ T e)[i]?=some (some U)->(aR f)[i]?=some a->Mt paper a w U:=by
 cases e with
 | stop =>
  rw [tm.mp h.symm.symm]
  exact⟨fun _ i w a U h1=>by simp [aR] at h1,fun _=>True.intro⟩
 | go p =>
  obtain⟨q,rfl⟩:=xj.mp h
  constructor
  ·intro hm i w a U h1 h2 h3
   match i,h1,h2,h3 with
   | 0,h1,h2,h3=>cases h1;cases h2;cases h3;exact hm
   | i+1,h1,_,_=>simp [aR] at h1
  ·intro hm
   exact hm 0 p q T rfl rfl rfl
 | bu b x n p q =>
  obtain⟨p',q',rfl⟩:=vi.mp h
  constructor
  ·rintro⟨_,m1,m2⟩ i w a U h1 h2 h3
   match i,h1,h2,h3 with
   | 0,h1,h2,h3=>cases h1;cases h3;exact m1 U (G5.inj h2)
   | 1,h1,h2,h3=>cases h1;cases h3;exact m2 U (G5.inj h2)
   | i+2,h1,_,_=>simp [aR] at h1
  ·intro hm
   refine⟨⟨rfl,rfl,rfl⟩,fun U hU=>hm 0 p p' U rfl (by show some _=some _;rw [hU]) rfl,fun U hU=>hm 1 q q' U rfl (by show some _=some _;rw [hU]) rfl⟩
theorem yj {paper:List Pp}{T:Str->Sx}{e f:End}(h:bQ e≠bQ f):jF paper T e f↔∃r ld,f=.go r/\cQ T e=[ld]/\Mt paper r ld.1 ld.2:=by
 cases e with
 | stop =>
  cases f with
  | stop=>exact absurd rfl h
  | go q=>exact⟨fun z=>False.elim z,fun ⟨r,ld,_,h2,_⟩=>by cases h2⟩
  | bu b x n p q=>exact⟨fun z=>False.elim z,fun ⟨r,ld,h1,_⟩=>by cases h1⟩
 | go p =>
  cases f with
  | stop=>exact⟨fun z=>False.elim z,fun ⟨r,ld,h1,_⟩=>by cases h1⟩
  | go q=>exact absurd rfl h
  | bu b x n p q=>exact⟨fun z=>False.elim z,fun ⟨r,ld,h1,_⟩=>by cases h1⟩
 | bu b x n p q =>
  cases f with
  | stop=>exact⟨fun z=>False.elim z,fun ⟨r,ld,h1,_⟩=>by cases h1⟩
  | go r=>exact⟨fun ⟨ld,h1,h2⟩=>⟨r,ld,rfl,h1,h2⟩,fun ⟨r',ld,h1,h2,h3⟩=>by cases h1;exact⟨ld,h2,h3⟩⟩
  | bu b' x' n' p' q' =>
   refine⟨fun ⟨⟨h1,h2,h3⟩,_⟩=>?_,fun ⟨r,ld,h1,_⟩=>by cases h1⟩
   subst h1 h2 h3
   exact absurd rfl h
theorem tq {e:End}(h:(eD e).canLay0=true):gN (.tuple (bQ e)) where
 key:=BB e
 lay:=yi h
 dep:=by
  have h2:PyData.depthAll (bQ e)<=0:=ke _ fun d hd=>by
   cases e with
   | stop=>rw [GR.mp hd];exact GQ 0
   | go q=>rw [GR.mp hd];exact GQ 0
   | bu b x n q r =>
    rcases GS.mp hd with rfl | hd
    ·exact GQ 0
    rcases GS.mp hd with rfl | hd
    ·exact GQ 0
    rw [GR.mp hd];exact GQ 0
  show PyData.depthAll (bQ e)+1<=7
  omega
 tup:=⟨_,rfl⟩
theorem kN {ds:List cf}(h:(PyData.tuple (ds.map bG)).canLay0=true):gN (.tuple (ds.map bG)) where
 key:=zV ds
 lay:=h
 dep:=by
  have h1:=ke (ds.map bG) fun d hd=>by obtain⟨x,_,rfl⟩:=G4.mp hd;exact Bo x
  show PyData.depthAll (ds.map bG)+1<=7
  omega
 tup:=⟨_,rfl⟩
theorem vj {ds es:List cf}:(PyData.tuple (ds.map bG)=.tuple (es.map bG))↔ds=es:=⟨fun h=>by injection h with h;exact qm h,fun h=>by rw [h]⟩
theorem vP {X:Cx} {K:GP} (hK:X.K=K):er X (.builtin "len") (fun xs H Q=>∃p ys,xs=[V.ref p]/\(aU K H p ys\/av K H p ys)/\Q (V.int (ys.length:Nat)) H):=by subst hK;exact aO
def jo (n:Nat)(c:Pp):Bool:=decide (0<=c.1)&&decide (c.1<(n:Int))
theorem xk {n:Nat}{c:Pp}:jo n c=true↔0<=c.1/\c.1<n:=by
 unfold jo
 rw [Hb,decide_eq_true_eq,decide_eq_true_eq]
def rG:Sp:=fun vs H Q _=>∃(ov lv:V) (c:Pp) (k:Nat) (U:Str->Sx),vs=[ov,lv]/\oi H ov c/\PV H lv (k,U)/\gP c.2 63/\∀b H',(b=true↔(c.1=(k:Int)/\∀x,jE (U x) (c.2 x)=true))->ao H H'->Q (.bl b) H'
def tu:Sp:=fun vs H Q _=>∃(fv:V) (ea fa pa:Addr) (T:Str->Sx) (e f:End) (us:List V) (paper:List Pp),vs=[fv,.ref ea,.ref fa,.ref pa]/\FV H fv T/\H ea=some (.tup (cx e))/\H fa=some (.tup (cx f))/\H pa=some (.tup us)/\cF H us paper/\gP T 62/\bQ e=bQ f/\(∀w∈aR f,w<paper.length)/\(∀c∈paper,gP c.2 63) /\
 ∀b H',(b=true↔jF paper T e f)->ao H H'->Q (.bl b) H'
def qq:Sp:=fun vs H Q _=>∃(fv:V) (ea fa pa:Addr) (T:Str->Sx) (e f:End) (us:List V) (paper:List Pp) (xs:List Str),vs=[fv,.ref ea,.ref fa,.ref pa]/\FV H fv T/\H ea=some (.tup (cx e))/\H fa=some (.tup (cx f))/\H pa=some (.tup us)/\cF H us paper/\cA xs T/\xs.length<=62/\(eD e).canLay0=true/\(eD f).canLay0=true/\(∀w∈aR f,w<paper.length)/\(∀c∈paper,gP c.2 63) /\
 ∀b H',(b=true↔jF paper T e f)->ao H H'->Q (.bl b) H'
def mQ:Sp:=fun vs H Q _=>∃(ov:V) (pc qc pa da ea da' ea':Addr) (ws ws' us:List V) (c:Pp) (ds ds':List cf) (e f:End) (paper:List Pp) (xs:List Str),vs=[ov,.ref pc,.ref qc,.ref pa]/\oi H ov c/\H pc=some (.tup [.ref da,.ref ea])/\H da=some (.tup ws)/\aX H ws (ds.map bG)/\H ea=some (.tup (cx e)) /\
 H qc=some (.tup [.ref da',.ref ea'])/\H da' = some (.tup ws')/\aX H ws' (ds'.map bG)/\H ea' = some (.tup (cx f))/\H pa=some (.tup us)/\cF H us paper/\cA xs c.2/\(∀d∈ds,fz xs d)/\ds.length<=12/\xs.length<=50/\(PyData.tuple (ds.map bG)).canLay0=true/\(PyData.tuple (ds'.map bG)).canLay0=true/\(eD e).canLay0=true/\(eD f).canLay0=true/\(∀w∈aR f,w<paper.length)/\(∀c∈paper,gP c.2 63) /\
 ∀b H',(b=true↔(ds=ds'/\jF paper (cw c.2 ds) e f))->ao H H'->Q (.bl b) H'
def mR:Sp:=fun vs H Q _=>∃(plv qlv:V) (pa:Addr) (ps qs:List Piece) (us:List V) (paper:List Pp) (xs:List Str) (m:Nat),vs=[plv,qlv,.ref pa]/\aY H plv (dM ps)/\aY H qlv (dM qs)/\H pa=some (.tup us)/\cF H us paper/\cJ xs m ps/\cT qs/\mH qs/\(∀x∈xs,eO x)/\(∀c∈paper,cA xs c.2)/\xs.length<=50/\m<=12/\0<ps.length/\ps.length<=400/\0<paper.length/\paper.length<=401 /\
 ∀b H',(b=true↔iP ps qs paper)->ao H H'->Q (.bl b) H'
def mS (c:Pp):Cp:=(c.1.toNat,c.2)
def kO (c:Cp):Pp:=((c.1:Int),c.2)
theorem vk {paper:List Pp}{k:Nat}{c:Pp}(h:paper[k]?=some c):(paper.map mS)[k]?=some (mS c):=by rw [G8,h];rfl
theorem vm {cs:List Cp}{k:Nat}{c:Cp}(h:cs[k]?=some c):(cs.map kO)[k]?=some (kO c):=by rw [G8,h];rfl
theorem iP.pap {ps qs:List Piece}{paper:List Pp}(h:iP ps qs paper):yf ps qs (paper.map mS):=fun j q hj=>by
 have hjl:j<paper.length:=by rw [h.len];exact (G7.mp hj).1
 have hc:paper[j]?=some paper[j]:=by simp [hjl]
 generalize paper[j]=c at hc
 obtain⟨i0,i1⟩:=h.Cu c (G9 hc)
 have hpl:c.1.toNat<ps.length:=by omega
 have hp:ps[c.1.toNat]?=some ps[c.1.toNat]:=by simp [hpl]
 generalize ps[c.1.toNat]=pc at hp
 obtain⟨e1,e2⟩:=h.all j c pc q hc hp hj
 refine⟨mS c,pc,vk hc,hp,e1.symm,fun w hw0=>?_⟩
 have hw:Sound (cw c.2 pc.1) w:=hw0
 clear hw0
 have go:∀{a p:Nat} {U:Str->Sx},Mt paper a p U->Sound U w->a<qs.length/\∃c':Cp,(paper.map mS)[a]?=some c'/\c'.1=p/\Sound c'.2 w:=fun {a p U} ⟨c',g1,g2,g3⟩ hs=>by
  refine⟨by rw [<-h.len];exact (G7.mp g1).1,mS c',vk g1,?_,hs.wide g3⟩
  show c'.1.toNat=p
  omega
 obtain⟨ds,e⟩:=pc
 obtain⟨ds',f⟩:=q
 dsimp only at e1 e2 hw
 generalize cw c.2 ds=T at e2 hw
 cases e with
 | stop =>
  cases f with
  | stop=>rfl
  | go r=>exact False.elim e2
  | bu b x n p r=>exact False.elim e2
 | go p =>
  cases f with
  | stop=>exact False.elim e2
  | go r =>
   obtain⟨k1,c',k2,k3,k4⟩:=go e2 hw
   exact⟨r,c',rfl,k1,k2,k3,k4⟩
  | bu b x n p r=>exact False.elim e2
 | bu b x n p r =>
  obtain⟨s,hs,hin⟩:=Dp (b:=b) (n:=n) (hw x)
  have hs:dJ T b x n (fD b (w x) n)=some s:=hs
  have hcut:=hw.cut hin
  show ∃(k:Nat) (c':Cp),_=some k/\_/\_/\c'.1=(if fD b (w x) n=true then p else r)/\_
  cases f with
  | stop=>exact False.elim e2
  | go a =>
   obtain⟨ld,l1,l2⟩:=e2
   have hld:ld=((if fD b (w x) n=true then p else r),cm T x s):=by
    rw [vf] at l1
    cases ha:fD b (w x) n with
    | true =>
     rw [ha] at hs
     rw [hs] at l1
     cases h2':dJ T b x n false with
     | none=>rw [h2'] at l1;injection l1 with l1;exact l1.symm
     | some s2=>rw [h2'] at l1;injection l1 with _ l1;cases l1
    | false =>
     rw [ha] at hs
     rw [hs] at l1
     cases h2':dJ T b x n true with
     | none=>rw [h2'] at l1;injection l1 with l1;exact l1.symm
     | some s2=>rw [h2'] at l1;injection l1 with _ l1;cases l1
   subst hld
   obtain⟨k1,c',k2,k3,k4⟩:=go l2 hcut
   exact⟨a,c',rfl,k1,k2,k3,k4⟩
  | bu b' x' n' p' r' =>
   obtain⟨⟨z1,z2,z3⟩,m1,m2⟩:=e2
   subst z1 z2 z3
   cases ha:fD b (w x) n with
   | true =>
    rw [ha] at hs
    obtain⟨k1,c',k2,k3,k4⟩:=go (m1 _ (by rw [hs];rfl)) hcut
    refine⟨p',c',(show some (if fD b (w x) n=true then _ else _)=_ from by rw [ha];rfl),k1,k2,k3,k4⟩
   | false =>
    rw [ha] at hs
    obtain⟨k1,c',k2,k3,k4⟩:=go (m2 _ (by rw [hs];rfl)) hcut
    refine⟨r',c',(show some (if fD b (w x) n=true then _ else _)=_ from by rw [ha];rfl),k1,k2,k3,k4⟩
theorem iP.sim {ps qs:List Piece}{paper:List Pp}(h:iP ps qs paper)(nums:List Int)(n:Nat):jn ps qs (paper.map mS) (b8 ps nums n (cU 0 fun _=>0)) (b8 qs nums n (cU 0 fun _=>0)):=by
 obtain⟨c,c1,c2,c3⟩:=h.first
 have h0:0<qs.length:=by rw [<-h.len];exact (G7.mp c1).1
 refine jn.walk h.pap (fun d hd=>?_) (zS (c:=mS c) h.pap h0 (vk c1) (by show c.1.toNat=0;omega) c3) n
 obtain⟨c',hc',rfl⟩:=G4.mp hd
 have:=h.Cu c' hc'
 show c'.1.toNat<ps.length
 omega
theorem zX {xs:List Str}{ps:List Piece}{m most:Nat}(pok:cJ xs m ps)(hn0:0<ps.length)(hm:1<=most):iP ps (ft ps most).2 ((ft ps most).1.map kO):=by
 obtain⟨I,hl,more,e⟩:=kM pok hn0 hm
 refine⟨by rw [GO,hl],fun c hc=>?_,⟨kO (gX ps),vm (by rw [e];rfl),?_,?_⟩,fun k c p q hk hp hq=>?_⟩
 ·obtain⟨c',hc',rfl⟩:=G4.mp hc
  have:=(I.ok c' hc').1
  show 0<=(c'.1:Int)/\(c'.1:Int)<_
  omega
 ·unfold gX
  split <;> rfl
 ·unfold gX
  split
  ·exact qg
  ·intro x
   show cK 0 (startT ps x).1 (startT ps x).2=true
   unfold startT
   split <;> rfl
 ·obtain⟨c',pc,ns,h1,h2,rfl,h4⟩:=I.rel k q hq
  rw [vm h1] at hk
  cases hk
  have hp:ps[c'.1]?=some p:=hp
  rw [h2] at hp
  have hp:=G5.inj hp
  subst hp
  refine⟨rfl,?_⟩
  show jF ((ft ps most).1.map kO) (cw c'.2 pc.1) pc.2 (jN pc.2 ns)
  generalize (ft ps most).1=cs at h4
  have go:∀{l:Cp} {a:Nat},(∃c':Cp,cs[a]?=some c'/\c'.1=l.1/\((¬cZ ps l.1/\c'.2=l.2)\/(c'.2=T0/\(cZ ps l.1\/most<=cs.length))))->Mt (cs.map kO) a l.1 l.2:=fun ⟨c',g1,g2,g3⟩=>by
   refine⟨kO c',vm g1,by show (c'.1:Int)=_;rw [g2],fun x=>?_⟩
   show jE _ (c'.2 x)=true
   rcases g3 with ⟨_,e⟩ | ⟨e,_⟩
   ·rw [e];exact Br _
   ·rw [e];exact rp _
  obtain⟨ds,e⟩:=pc
  dsimp only at h4 ⊢
  generalize cw c'.2 ds=T at h4
  unfold Goes at h4
  cases e with
  | stop =>
   cases h4
   exact True.intro
  | go q =>
   have hl1:cQ T (.go q)=[(q,T)]:=rfl
   rw [hl1] at h4
   cases h4 with
   | cons r t =>
    cases t
    exact go r
  | bu b x n q r =>
   have hld:=vf (T:=T) (b:=b) (x:=x) (n:=n) (q:=q) (r:=r)
   rw [hld] at h4
   cases h1':dJ T b x n true with
   | none =>
    cases h2':dJ T b x n false with
    | none =>
     rw [h1',h2'] at h4
     cases h4
     refine⟨⟨rfl,rfl,rfl⟩,fun U hU=>?_,fun U hU=>?_⟩
     ·rw [h1'] at hU;cases hU
     ·rw [h2'] at hU;cases hU
    | some s2 =>
     rw [h1',h2'] at h4 hld
     cases h4 with
     | cons r1 t =>
      cases t
      exact⟨_,hld,go r1⟩
   | some s1 =>
    cases h2':dJ T b x n false with
    | none =>
     rw [h1',h2'] at h4 hld
     cases h4 with
     | cons r1 t =>
      cases t
      exact⟨_,hld,go r1⟩
    | some s2 =>
     rw [h1',h2'] at h4
     cases h4 with
     | cons r1 t =>
      cases t with
      | cons r2 t =>
       cases t
       refine⟨⟨rfl,rfl,rfl⟩,fun U hU=>?_,fun U hU=>?_⟩
       ·rw [h1'] at hU;cases hU;exact go r1
       ·rw [h2'] at hU;cases hU;exact go r2
def gf (n:Nat):List Pp:=(Hs n).map fun (k:Nat)=>((k:Int),T0)
theorem plain_at {n k:Nat}(h:k<n):(gf n)[k]?=some ((k:Int),T0):=by
 unfold gf
 rw [G8,List.getElem?_range h]
 rfl
theorem vQ {ps:List Piece}(hin:cT ps)(hn0:0<ps.length):iP ps ps (gf ps.length):=by
 have mt:∀{p:Nat} {U:Str->Sx},p<ps.length->Mt (gf ps.length) p p U:=fun {p U} h=>⟨_,plain_at h,rfl,fun x=>rp _⟩
 refine⟨by unfold gf;rw [GO,IL],fun c hc=>?_,⟨_,plain_at hn0,rfl,qg⟩,fun k c p q hk hp hq=>?_⟩
 ·obtain⟨k,hk,rfl⟩:=G4.mp hc
  have:=Ig.mp hk
  show 0<=(k:Int)/\(k:Int)<_
  omega
 ·have hkl:=(G7.mp hq).1
  rw [plain_at hkl] at hk
  cases hk
  have hp:ps[k]?=some p:=hp
  rw [hq] at hp
  have hp:=G5.inj hp
  subst hp
  refine⟨rfl,?_⟩
  obtain⟨ds,e⟩:=q
  have hw:=rC hin hq
  cases e with
  | stop=>exact True.intro
  | go p=>exact mt (hw p (GR.mpr rfl))
  | bu b x n p r=>exact⟨⟨rfl,rfl,rfl⟩,fun U _=>mt (hw p (GZ ..)),fun U _=>mt (hw r (G1 _ (GZ ..)))⟩
section
variable {P:Program}{w:World}{K:GP}{mg:Str->Option Value}{base h:Heap}{x q m:Str}{st:Stmt}{f C:Addr}{fd:FuncData}{k:Nat}{ps:List Str}{sp:Sp}
structure bD (K:GP) (x:Str) (st:Stmt) (f:Addr) (fd:FuncData):Prop where
 a:Ho K mainGlobals x=some (some (.ref f))
 F:b0 K x x st f fd
structure qr (K:GP) (C:Addr) (x q:Str) (st:Stmt) (f:Addr) (fd:FuncData):Prop where
 a:Hx K (.ref C) x=some (some (.ref f))
 i:IE K (.ref f)=true
 F:b0 K x q st f fd
section
variable {oc:Value}{od an:Option Addr}{osl:Array (Option Value)}{kV doc pm cdv ct:Value}
theorem def_mk (a:Ho K mainGlobals x=some (some (.ref f)))(l:K.lookup f=some ⟨oc,od,.func (Hu x x (dU st) (dB st) (ay st) .none kV doc pm an cdv ct),osl⟩)
  (c:Ih K cdv x=true) (k:HF K (.ref f)=true):bD K x st f (Hu x x (dU st) (dB st) (ay st) .none kV doc pm an cdv ct):=⟨a,yR l c k⟩
theorem met_mk (a:Hx K (.ref C) x=some (some (.ref f)))(i:IE K (.ref f)=true)(l:K.lookup f=some ⟨oc,od,.func (Hu x q (dU st) (dB st) (ay st) .none kV doc pm an cdv ct),osl⟩)
  (c:Ih K cdv q=true) (k:HF K (.ref f)=true):qr K C x q st f (Hu x q (dU st) (dB st) (ay st) .none kV doc pm an cdv ct):=⟨a,i,yR l c k⟩
end
def kP (x q:Str)(st:Stmt)(ps:List Str):Prop:=∀(kV doc pm:Value) (an:Option Addr) (cdv ct:Value) (us:List Value),us.length=ps.length->bindArgs (Hu x q (dU st) (dB st) (ay st) .none kV doc pm an cdv ct) ⟨us,[]⟩=pure (ps.zip us)
theorem bf (P:Program)(w:World)(base:Heap)(X:K.In h)(G:h.Ns mainGlobals mg)(d:bD K x st f fd)(o:bp P w K mg base bT k f fd ps sp)(b:kP x x st ps):Own P w K mg base x k ps sp:=⟨⟨_,_,o,Il X G d.a,d.F.kp,d.F.binds b⟩⟩
theorem Dq (P:Program)(w:World)(base:Heap)(mg:Str->Option Value)(T:lY K C)(d:qr K C x q st f fd)(o:bp P w K mg base bT k f fd ps sp)(b:kP x q st ps):AL P w K mg base C x k ps sp:=⟨T,⟨_,_,o,⟨d.a,d.i,d.F.kp⟩,d.F.binds b⟩⟩
theorem Dr (P:Program) (w:World) (base:Heap) (X:K.In h) (G:h.Ns mainGlobals mg) (aC:Ho K mainGlobals m=some (some (.ref C))) (mk:IV K C=true) (kc:HF K (.ref C)=true) (d:qr K C "__init__" q st f fd) (o:bp P w K mg base bT k f fd ps sp) (b:kP "__init__" q st ps):AM P w K mg base C m k ps sp:=⟨⟨_,_,o,⟨mk,d.a,d.i,kc⟩,Il X G aC,d.F.binds b⟩⟩
section
variable {p1 p2 p3 p4 p5 p6:Str}
theorem lK (h:∀(kV doc pm:Value) (an:Option Addr) (cdv ct u1:Value),bindArgs (Hu x q (dU st) (dB st) (ay st) .none kV doc pm an cdv ct) ⟨[u1],[]⟩=pure [(p1,u1)]):kP x q st [p1]:=fun _ _ _ _ _ _ us hl=>match us,hl with | [_],_=>h ..
theorem fA (h:∀(kV doc pm:Value) (an:Option Addr) (cdv ct u1 u2:Value),bindArgs (Hu x q (dU st) (dB st) (ay st) .none kV doc pm an cdv ct) ⟨[u1,u2],[]⟩=pure [(p1,u1),(p2,u2)]):kP x q st [p1,p2]:=fun _ _ _ _ _ _ us hl=>match us,hl with | [_,_],_=>h ..
theorem om (h:∀(kV doc pm:Value) (an:Option Addr) (cdv ct u1 u2 u3:Value),bindArgs (Hu x q (dU st) (dB st) (ay st) .none kV doc pm an cdv ct) ⟨[u1,u2,u3],[]⟩=pure [(p1,u1),(p2,u2),(p3,u3)]):kP x q st [p1,p2,p3]:=fun _ _ _ _ _ _ us hl=>match us,hl with | [_,_,_],_=>h ..
theorem xl (h:∀(kV doc pm:Value) (an:Option Addr) (cdv ct u1 u2 u3 u4:Value),bindArgs (Hu x q (dU st) (dB st) (ay st) .none kV doc pm an cdv ct) ⟨[u1,u2,u3,u4],[]⟩=pure [(p1,u1),(p2,u2),(p3,u3),(p4,u4)]):kP x q st [p1,p2,p3,p4]:=fun _ _ _ _ _ _ us hl=>match us,hl with | [_,_,_,_],_=>h ..
end
end
def tw:Sp:=fun vs H Q _=>∃(b ea:Addr) (e:End) (c:Nat),vs=[.ref b,.ref ea,.int (c:Nat)]/\bU H b/\H ea=some (.tup (cx e))/\(eD e).canLay0=true/\(∀k∈aR e,k<c)/\0<c/\c<=1000/\∀t e' H',H' t=some (.tup (cx e'))->(eD e').canLay0=true->(∀k∈aR e',k<c)->bU H' b->Fix b H H'->Q (.ref t) H'
def tD:Sp:=fun vs H Q _=>∃(b:Addr) (qlv:V) (qs:List Piece),vs=[.ref b,qlv]/\bU H b/\aY H qlv (dM qs)/\cT qs/\mH qs/\(∀p∈qs,p.1.length<=12)/\0<qs.length/\qs.length<=1000/\∀v qs' H',aY H' v (dM qs')->qs'.length=qs.length->cT qs'->mH qs'->(∀p∈qs',p.1.length<=12)->bU H' b->Fix b H H'->Q v H'
def tE:Sp:=fun vs H Q _=>∃(b pa:Addr) (us:List V) (paper:List Pp) (xs:List Str) (n:Int),vs=[.ref b,.ref pa,.int n]/\bU H b/\H pa=some (.tup us)/\cF H us paper/\(∀c∈paper,cA xs c.2)/\("zz" : Str)∈xs/\xs.length<=50/\0<paper.length/\paper.length<=400 /\
 ∀(t:Addr) (us':List V) (paper':List Pp) H',H' t=some (.tup us')->cF H' us' paper'->(∀c∈paper',cA xs c.2)->0<paper'.length->paper'.length<=400->bU H' b->Fix b H H'->Q (.ref t) H'
theorem cF.vn {H H':Hp}{b:Addr}{us:List V}{tab:List Pp}(h:cF H us tab)(B:bU H b)(X:Fix b H H'):cF H' us tab:=h.aK fun p zs e=>X p _ e (B.bI e)
theorem qt (p:Nat):(eD (.go p)).canLay0=true:=dC _ fun y hy=>by
 rcases GS.mp hy with rfl | hy
 ·decide +kernel
 ·rw [GR.mp hy];rfl
theorem BD:(eD .stop).canLay0=true:=dC _ fun y hy=>by rw [GR.mp hy];decide +kernel
theorem nF {b:Bool}{x:Str}{n:Int}{p q:Nat}(h:(PyData.str x).canLay0=true):(eD (.bu b x n p q)).canLay0=true:=dC _ fun y hy=>by
 rcases GS.mp hy with rfl | hy
 ·cases b <;> decide +kernel
 rcases GS.mp hy with rfl | hy
 ·exact h
 rcases GS.mp hy with rfl | hy
 ·rfl
 rcases GS.mp hy with rfl | hy
 ·rfl
 ·rw [GR.mp hy];rfl
theorem jq {b:Bool}{x:Str}{n:Int}{p q:Nat}(h:(eD (.bu b x n p q)).canLay0=true):(PyData.str x).canLay0=true:=by
 have h:((PyData.str (wT b)).canLay0&&((PyData.str x).canLay0&&_))=true:=h
 rw [Hb,Hb] at h
 exact h.2.1
theorem aX.Cv {H:Hp}:∀(n:Nat) {xs:List V} {ds:List PyData},aX H xs ds->aX H (xs.drop n) (ds.drop n)
 | 0,_,_,h=>h
 | n+1,_,_,.nil=>.nil
 | n+1,_,_,.cons _ t=>aX.Cv n t
theorem aX.Cw {H:Hp}:∀(n:Nat) {xs:List V} {ds:List PyData},aX H xs ds->aX H (xs.take n) (ds.take n)
 | 0,_,_,h=>.nil
 | n+1,_,_,.nil=>.nil
 | n+1,_,_,.cons h t=>.cons h (aX.Cw n t)
theorem aX.EO {H:Hp}{ys:List V}{es:List PyData}(g:aX H ys es):∀{xs:List V} {ds:List PyData},aX H xs ds->aX H (xs++ys) (ds++es)
 | _,_,.nil=>g
 | _,_,.cons h t=>.cons h (aX.EO g t)
theorem zY {H:Hp}{xs:List V}{ds:List cf}(h:aX H xs (ds.map bG))(lo hi:Option Int):∃ds':List cf,aX H (cP xs lo hi) (ds'.map bG)/\∀d∈ds',d∈ds:=by
 refine⟨(ds.drop (HT.bP xs.length 0 lo)).take (HT.bP xs.length xs.length hi-HT.bP xs.length 0 lo),?_,fun d hd=>List.mem_of_mem_drop (Jm hd)⟩
 have:=(h.Cv (HT.bP xs.length 0 lo)).Cw (HT.bP xs.length xs.length hi-HT.bP xs.length 0 lo)
 rw [<-List.map_drop,<-List.map_take] at this
 exact this
theorem xm:∀{ds:List PyData},(PyData.tuple ds).canLay0=true->∀d∈ds,d.canLay0=true
 | [],_,d,hd=>nomatch hd
 | x::ds,h,d,hd=>by
  have h:(x.canLay0&&(PyData.tuple ds).canLay0)=true:=h
  rw [Hb] at h
  rcases GS.mp hd with rfl | hd
  ·exact h.1
  ·exact xm h.2 d hd
theorem xn {ds ds':List cf} (h:(PyData.tuple (ds.map bG)).canLay0=true) (hs:∀d∈ds',d∈ds\/d=.tell "zz"):(PyData.tuple (ds'.map bG)).canLay0=true:=dC _ fun y hy=>by
 obtain⟨d,hd,rfl⟩:=G4.mp hy
 rcases hs d hd with hd | rfl
 ·exact xm h _ (List.mem_map_of_mem hd)
 ·decide +kernel
theorem BE {qs:List Piece}{k:Nat}{p:Piece}(hin:cT qs)(hw:∀w∈aR p.2,w<qs.length):cT (qs.set k p):=fun q hq=>by
 have key:∀q∈qs.set k p,∀w∈aR q.2,w<qs.length:=fun q hq w hw'=>by
  rcases IQ hq with hq | rfl
  ·exact rF hin hq hw'
  ·exact hw w hw'
 have h:=key q hq
 rw [Ia]
 obtain⟨ds,e⟩:=q
 cases e with
 | stop=>exact True.intro
 | go r=>exact h r (GR.mpr rfl)
 | bu b x n r s=>exact⟨h r (GZ ..),h s (G1 _ (GZ ..))⟩
theorem Ds {qs:List Piece}{k:Nat}{p:Piece}(h:mH qs)(hp:(PyData.tuple (p.1.map bG)).canLay0=true/\(eD p.2).canLay0=true):mH (qs.set k p):=fun q hq=>by
 rcases IQ hq with hq | rfl
 ·exact h q hq
 ·exact hp
theorem Dt {c:Bool}{A B:Prop}{C:Hp->Prop}{H3:Hp}(hz:∀H',ao H3 H'->C H')(hx:(∀H',ao H3 H'->C H')->c=true->A):if c=true then A else (if false=true then B else C H3):=by
 cases c
 ·exact hz H3 (ao.refl H3)
 ·exact hx hz rfl
theorem BF {xs:List V}{k:Nat}(h:k<xs.length):(cP xs none (some (k:Int))).length+(cP xs (some ((k+1:Nat):Int)) none).length<xs.length:=by
 unfold cP
 rw [Hm,Io,Hm,Io,HT.j1,HT.j1,HT.oC,HT.oC]
 omega
def vo:Sp:=fun vs H Q _=>∃(b pa:Addr) (plv qlv:V) (ps qs:List Piece) (us:List V) (paper:List Pp),vs=[.ref b,plv,qlv,.ref pa]/\bU H b/\aY H plv (dM ps)/\aY H qlv (dM qs)/\H pa=some (.tup us)/\cF H us paper/\cT ps/\cT qs/\0<ps.length/\iP ps qs paper/\∀H',bU H' b->Fix b H H'->Q (.bl true) H'
def kQ (W:RS):PyData:=.tuple [.str W.word,.list (W.told.map PyData.int)]
theorem BG {W:RS}(h:(PyData.str W.word).canLay0=true):(kQ W).canLay0=true:=dC _ fun d hd=>by
 rcases GS.mp hd with rfl | hd
 ·exact h
 ·rw [GR.mp hd]
  exact oX _ fun d hd=>by obtain⟨x,_,rfl⟩:=G4.mp hd;rfl
theorem BH (W:RS):(kQ W).depth<=60:=by
 have:=ke (m:=0) (W.told.map PyData.int) fun d hd=>by obtain⟨x,_,rfl⟩:=G4.mp hd;exact GQ 0
 show max 0 (max (PyData.depthAll (W.told.map PyData.int)+1) 0)+1<=60
 omega
theorem zZ {H:Hp}:∀{vs:List V} {ds:List PyData} {cs:List Cp},aX H vs ds->Paired (fun d c=>CD c d) ds cs->cF H vs (cs.map kO)
 | _,_,_,.nil,.nil=>.nil
 | _,_,_,.cons h t,.cons g t'=>by
  refine .cons ?_ (zZ t t')
  obtain⟨fd,hf,rfl⟩:=g
  obtain⟨pa,pvs,rfl,hpm,rpv⟩:=aY.bZ h
  obtain⟨y1,t1,rfl,q1,rpv⟩:=rpv.cons_inv
  obtain⟨y2,t2,rfl,q2,rpv⟩:=rpv.cons_inv
  have z:=rpv.nil_inv
  subst z
  rw [q1.int_inv] at hpm
  exact⟨pa,y2,rfl,hpm,hf.fv q2⟩
theorem Du:eO ("zz" : Str):=by constructor <;> decide +kernel
structure iQ (H:Hp) (ov:V) (pa:Addr) (ps qs:List Piece) (paper:List Pp) (xs:List Str):Prop where
 ro:aY H ov (dM qs)
 pp:∃us,H pa=some (.tup us)/\cF H us paper
 hold:iP ps qs paper
 tok:∀c∈paper,cA xs c.2
 z6:cT qs
 lay:mH qs
 bB:∀p∈qs,p.1.length<=12
 lt:qs.length<=400
theorem iQ.aK {H H':Hp}{ov:V}{pa:Addr}{ps qs:List Piece}{paper:List Pp}{xs:List Str}(h:iQ H ov pa ps qs paper xs)(k:∀p zs,H p=some (.tup zs)->H' p=some (.tup zs)):iQ H' ov pa ps qs paper xs:=by
 obtain⟨us,h1,h2⟩:=h.pp
 exact⟨h.ro.aK k (bR qs),⟨us,k _ _ h1,h2.aK k⟩,h.hold,h.tok,h.z6,h.lay,h.bB,h.lt⟩
theorem iQ.pos {H:Hp}{ov:V}{pa:Addr}{ps qs:List Piece}{paper:List Pp}{xs:List Str}(h:iQ H ov pa ps qs paper xs):0<qs.length:=by
 obtain⟨c,c1,_⟩:=h.hold.first
 have:=(G7.mp c1).1
 rw [h.hold.len] at this
 omega
theorem z7 {xs:List Str}{n:Nat}:∀c∈gf n,cA xs c.2:=fun c hc=>by
 obtain⟨k,_,rfl⟩:=G4.mp hc
 exact cA.zero
end L2
namespace My
open PySem PySem.Spec PyProof.Rows L2
def top (i:Nat):Stmt:=PySem.Challenge.pw_ledpast_k16_whole_let_by_same_tellings.main.body.getD i (.Pass ⟨0,0,0,0⟩)
structure Bl (mg:Str->Option Value):Prop where
 len:mg "len" = none
 zip:mg "zip" = none
 tuple:mg "tuple" = none
 sorted:mg "sorted" = none
 set:mg "set" = none
 dict:mg "dict" = none
 min:mg "min" = none
 max:mg "max" = none
 range:mg "range" = none
 list:mg "list" = none
 int:mg "int" = none
 all:mg "all" = none
abbrev gS:Stmt:=top 3
theorem oY:aS ["thing", "kinds", "wanted"] ["thing", "kinds", "wanted"] (ay gS):=⟨rfl,rfl,rfl,by decide +kernel,rfl,by decide +kernel,by decide +kernel⟩
abbrev mT:Stmt:=top 5
theorem yk:aS ["end"] ["end"] (ay mT):=⟨rfl,rfl,rfl,by decide +kernel,rfl,by decide +kernel,by decide +kernel⟩
abbrev ia:Stmt:=top 6
theorem qu:aS ["end"] ["end"] (ay ia):=⟨rfl,rfl,rfl,by decide +kernel,rfl,by decide +kernel,by decide +kernel⟩
abbrev kR:Stmt:=top 4
theorem gg:aS ["plan", "names", "deeds", "end", "deed"] ["plan"] (ay kR):=⟨rfl,rfl,rfl,by decide +kernel,rfl,by decide +kernel,by decide +kernel⟩
abbrev mU:Stmt:=top 11
theorem kT:aS ["number", "stretch", "low", "high"] ["number", "stretch"] (ay mU):=⟨rfl,rfl,rfl,by decide +kernel,rfl,by decide +kernel,by decide +kernel⟩
abbrev jr:Stmt:=top 13
theorem gh:aS ["stretch", "number", "low", "high", "top"] ["stretch", "number"] (ay jr):=⟨rfl,rfl,rfl,by decide +kernel,rfl,by decide +kernel,by decide +kernel⟩
abbrev jO:Stmt:=top 14
theorem gU:aS ["stretch", "number", "low", "high", "bottom"] ["stretch", "number"] (ay jO):=⟨rfl,rfl,rfl,by decide +kernel,rfl,by decide +kernel,by decide +kernel⟩
abbrev mV:Stmt:=top 15
theorem yl:aS ["stretch", "number"] ["stretch", "number"] (ay mV):=⟨rfl,rfl,rfl,by decide +kernel,rfl,by decide +kernel,by decide +kernel⟩
abbrev iH:Stmt:=top 16
theorem ib:aS ["stretch", "number", "low", "high"] ["stretch", "number"] (ay iH):=⟨rfl,rfl,rfl,by decide +kernel,rfl,by decide +kernel,by decide +kernel⟩
abbrev mW:Stmt:=top 17
theorem ym:aS ["stretch", "word", "number", "side"] ["stretch", "word", "number", "side"] (ay mW):=⟨rfl,rfl,rfl,by decide +kernel,rfl,by decide +kernel,by decide +kernel⟩
abbrev jP:Stmt:=top 12
theorem fO:aS ["one", "other", "low", "high", "low_fits", "high_fits"] ["one", "other"] (ay jP):=⟨rfl,rfl,rfl,by decide +kernel,rfl,by decide +kernel,by decide +kernel⟩
abbrev kU:Stmt:=top 20
theorem vR:aS ["stretches"] ["stretches"] (ay kU):=⟨rfl,rfl,rfl,by decide +kernel,rfl,by decide +kernel,by decide +kernel⟩
abbrev rH:Stmt:=top 21
theorem BI:aS ["facts", "name"] ["facts", "name"] (ay rH):=⟨rfl,rfl,rfl,by decide +kernel,rfl,by decide +kernel,by decide +kernel⟩
abbrev jt:Stmt:=top 22
theorem lL:aS ["facts", "name", "stretch", "stretches"] ["facts", "name", "stretch"] (ay jt):=⟨rfl,rfl,rfl,by decide +kernel,rfl,by decide +kernel,by decide +kernel⟩
abbrev rJ:Stmt:=top 23
theorem BJ:aS ["facts", "worths"] ["facts", "worths"] (ay rJ):=⟨rfl,rfl,rfl,by decide +kernel,rfl,by decide +kernel,by decide +kernel⟩
abbrev oZ:Stmt:=top 24
theorem tF:aS ["facts", "others", "stretches"] ["facts", "others"] (ay oZ):=⟨rfl,rfl,rfl,by decide +kernel,rfl,by decide +kernel,by decide +kernel⟩
abbrev rK:Stmt:=top 25
theorem o1:aS ["stretch", "number", "low", "high"] ["stretch", "number"] (ay rK):=⟨rfl,rfl,rfl,by decide +kernel,rfl,by decide +kernel,by decide +kernel⟩
abbrev gm:Stmt:=top 26
theorem iL:aS ["stretches", "deed", "word", "name"] ["stretches", "deed"] (ay gm):=⟨rfl,rfl,rfl,by decide +kernel,rfl,by decide +kernel,by decide +kernel⟩
abbrev o2:Stmt:=top 27
theorem mX:aS ["facts", "deeds", "stretches", "deed"] ["facts", "deeds"] (ay o2):=⟨rfl,rfl,rfl,by decide +kernel,rfl,by decide +kernel,by decide +kernel⟩
abbrev ic:Stmt:=top 28
theorem dA:aS ["facts", "end", "ways", "word", "name", "number", "stretch", "parts"] ["facts", "end"] (ay ic):=⟨rfl,rfl,rfl,by decide +kernel,rfl,by decide +kernel,by decide +kernel⟩
abbrev rL:Stmt:=top 29
theorem vp:aS ["facts", "end", "beyond"] ["facts", "end"] (ay rL):=⟨rfl,rfl,rfl,by decide +kernel,rfl,by decide +kernel,by decide +kernel⟩
abbrev rM:Stmt:=top 30
theorem BK:aS ["plan"] ["plan"] (ay rM):=⟨rfl,rfl,rfl,by decide +kernel,rfl,by decide +kernel,by decide +kernel⟩
abbrev ie:Stmt:=inClass (top 7) 0
theorem qw:aS ["self", "first"] ["self", "first"] (ay ie):=⟨rfl,rfl,rfl,by decide +kernel,rfl,by decide +kernel,by decide +kernel⟩
abbrev ig:Stmt:=inClass (top 7) 1
theorem qx:aS ["self", "thing"] ["self", "thing"] (ay ig):=⟨rfl,rfl,rfl,by decide +kernel,rfl,by decide +kernel,by decide +kernel⟩
abbrev mY:Stmt:=top 8
theorem gW:aS ["plan", "found", "waiting", "at", "way"] ["plan"] (ay mY):=⟨rfl,rfl,rfl,by decide +kernel,rfl,by decide +kernel,by decide +kernel⟩
abbrev rN:Stmt:=top 9
theorem kW:aS ["plan", "found", "at", "way"] ["plan"] (ay rN):=⟨rfl,rfl,rfl,by decide +kernel,rfl,by decide +kernel,by decide +kernel⟩
abbrev kX:Stmt:=top 42
theorem ow:aS ["lead", "tops", "places", "most", "piece"] ["lead", "tops", "places", "most"] (ay kX):=⟨rfl,rfl,rfl,by decide +kernel,rfl,by decide +kernel,by decide +kernel⟩
abbrev o4:Stmt:=top 43
theorem z8:aS ["end", "ways"] ["end", "ways"] (ay o4):=⟨rfl,rfl,rfl,by decide +kernel,rfl,by decide +kernel,by decide +kernel⟩
abbrev kY:Stmt:=top 44
theorem dn:aS ["plan", "most", "tops", "copies", "pieces", "piece", "facts", "deeds", "end", "ahead", "ways"] ["plan", "most"] (ay kY):=⟨rfl,rfl,rfl,by decide +kernel,rfl,by decide +kernel,by decide +kernel⟩
abbrev rO:Stmt:=top 32
theorem BL:aS ["one", "lead"] ["one", "lead"] (ay rO):=⟨rfl,rfl,rfl,by decide +kernel,rfl,by decide +kernel,by decide +kernel⟩
abbrev gn:Stmt:=top 33
theorem eX:aS ["facts", "end", "other_end", "paper", "way", "there", "at"] ["facts", "end", "other_end", "paper"] (ay gn):=⟨rfl,rfl,rfl,by decide +kernel,rfl,by decide +kernel,by decide +kernel⟩
abbrev jQ:Stmt:=top 34
theorem mZ:aS ["facts", "end", "other_end", "paper", "ahead"] ["facts", "end", "other_end", "paper"] (ay jQ):=⟨rfl,rfl,rfl,by decide +kernel,rfl,by decide +kernel,by decide +kernel⟩
abbrev iI:Stmt:=top 35
theorem ff:aS ["one", "piece", "other_piece", "paper", "deeds", "end", "other_deeds", "other_end"] ["one", "piece", "other_piece", "paper"] (ay iI):=⟨rfl,rfl,rfl,by decide +kernel,rfl,by decide +kernel,by decide +kernel⟩
abbrev iJ:Stmt:=top 36
theorem rP:aS ["plan", "other", "paper"] ["plan", "other", "paper"] (ay iJ):=⟨rfl,rfl,rfl,by decide +kernel,rfl,by decide +kernel,by decide +kernel⟩
abbrev m3:Stmt:=top 46
theorem kZ:aS ["script", "k", "cell"] ["script", "k"] (ay m3):=⟨rfl,rfl,rfl,by decide +kernel,rfl,by decide +kernel,by decide +kernel⟩
abbrev lg:Stmt:=top 47
theorem ox:aS ["bag", "many", "found"] ["bag", "many"] (ay lg):=⟨rfl,rfl,rfl,by decide +kernel,rfl,by decide +kernel,by decide +kernel⟩
abbrev jR:Stmt:=top 48
theorem dQ:aS ["bag", "letters", "many", "base", "at", "names", "k", "name"] ["bag"] (ay jR):=⟨rfl,rfl,rfl,by decide +kernel,rfl,by decide +kernel,by decide +kernel⟩
abbrev ju:Stmt:=top 49
theorem tM:aS ["bag"] ["bag"] (ay ju):=⟨rfl,rfl,rfl,by decide +kernel,rfl,by decide +kernel,by decide +kernel⟩
abbrev lh:Stmt:=top 50
theorem jS:aS ["bag", "names", "word", "name"] ["bag", "names"] (ay lh):=⟨rfl,rfl,rfl,by decide +kernel,rfl,by decide +kernel,by decide +kernel⟩
abbrev m5:Stmt:=top 51
theorem iR:aS ["bag", "names", "count", "way", "word", "name"] ["bag", "names", "count"] (ay m5):=⟨rfl,rfl,rfl,by decide +kernel,rfl,by decide +kernel,by decide +kernel⟩
abbrev lj:Stmt:=top 52
theorem fC:aS ["bag", "count", "most", "names", "pieces", "k", "many", "end"] ["bag", "count", "most"] (ay lj):=⟨rfl,rfl,rfl,by decide +kernel,rfl,by decide +kernel,by decide +kernel⟩
abbrev jT:Stmt:=top 53
theorem vq:aS ["bag", "most"] ["bag", "most"] (ay jT):=⟨rfl,rfl,rfl,by decide +kernel,rfl,by decide +kernel,by decide +kernel⟩
abbrev ll:Stmt:=top 56
theorem bX:aS ["plan", "state", "numbers", "piece", "place", "worths", "taken", "told", "word", "been", "deeds", "end", "deed", "worth", "there", "yes"] ["plan", "state", "numbers"] (ay ll):=⟨rfl,rfl,rfl,by decide +kernel,rfl,by decide +kernel,by decide +kernel⟩
abbrev lr:Stmt:=top 57
theorem ir:aS ["plan", "numbers", "steps", "state", "k"] ["plan", "numbers", "steps"] (ay lr):=⟨rfl,rfl,rfl,by decide +kernel,rfl,by decide +kernel,by decide +kernel⟩
abbrev jU:Stmt:=top 58
theorem m6:aS ["bag", "many"] ["bag"] (ay jU):=⟨rfl,rfl,rfl,by decide +kernel,rfl,by decide +kernel,by decide +kernel⟩
abbrev lB:Stmt:=top 54
theorem jV:aS ["facts", "name", "stretch", "more", "other"] ["facts", "name", "stretch"] (ay lB):=⟨rfl,rfl,rfl,by decide +kernel,rfl,by decide +kernel,by decide +kernel⟩
abbrev lC:Stmt:=top 55
theorem vS:aS ["facts"] ["facts"] (ay lC):=⟨rfl,rfl,rfl,by decide +kernel,rfl,by decide +kernel,by decide +kernel⟩
abbrev ij:Stmt:=top 63
theorem fG:aS ["facts", "table", "name", "stretch"] ["facts"] (ay ij):=⟨rfl,rfl,rfl,by decide +kernel,rfl,by decide +kernel,by decide +kernel⟩
abbrev fP:Stmt:=top 59
theorem bx:aS ["bag", "facts", "table", "names", "name", "low", "high", "way"] ["bag", "facts"] (ay fP):=⟨rfl,rfl,rfl,by decide +kernel,rfl,by decide +kernel,by decide +kernel⟩
abbrev gr:Stmt:=top 61
theorem fZ:aS ["bag", "end", "count", "way", "at"] ["bag", "end", "count"] (ay gr):=⟨rfl,rfl,rfl,by decide +kernel,rfl,by decide +kernel,by decide +kernel⟩
abbrev fQ:Stmt:=top 62
theorem bS:aS ["bag", "other", "some", "at", "deeds", "end", "way", "place"] ["bag", "other"] (ay fQ):=⟨rfl,rfl,rfl,by decide +kernel,rfl,by decide +kernel,by decide +kernel⟩
abbrev fR:Stmt:=top 60
theorem cV:aS ["bag", "paper", "count", "some", "at", "piece", "facts", "way"] ["bag", "paper", "count"] (ay fR):=⟨rfl,rfl,rfl,by decide +kernel,rfl,by decide +kernel,by decide +kernel⟩
abbrev jW:Stmt:=top 64
theorem fg:aS ["bag", "plan", "other", "paper", "k", "numbers", "steps", "one", "two"] ["bag", "plan", "other", "paper"] (ay jW):=⟨rfl,rfl,rfl,by decide +kernel,rfl,by decide +kernel,by decide +kernel⟩
abbrev nG:Stmt:=top 65
theorem fh:aS ["script", "bag", "plan", "other", "paper", "k", "way", "two", "more"] ["script"] (ay nG):=⟨rfl,rfl,rfl,by decide +kernel,rfl,by decide +kernel,by decide +kernel⟩
section
variable {P:Program}{w:World}{K:GP}{mg:Str->Option Value}{base:Heap}
theorem o5 {f:Addr} {fd:FuncData} (F:b0 K "parts_of_kind" "parts_of_kind" gS f fd) (Z:Bl mg)  : bp P w K mg base bT 1 f fd ["thing", "kinds", "wanted"] (qW K):=by
 refine F.ok (k:=0) oY (fun vs H Q E h=>?_) (fun cdv A outer s H vs Q E hr h=>?_)
 ·obtain⟨t,s,v0,xs,ks,w,rfl,_⟩:=h
  rfl
 ·obtain⟨t,s,v0,xs,ks,w,rfl,ht,hs,hl,q⟩:=h
  refine⟨_,(ar (aH (de ["part", "kind"] ["wanted"] [2] rfl (ur rfl Z.zip (aa (gZ iU (pv 0) (iT ah) iS) (aa (pv 1) ae))) rfl (by decide +kernel) (by decide +kernel) (by decide +kernel) ⟨⟨rfl,.inl rfl,rfl⟩,True.intro⟩ (fun _ _ _ _=>(j4 (K:=K) (n:=2) rfl (cG (n:=2) rfl (aM (aB (i:=0) (show ((["part", "kind"]:List Str)++(["wanted"]:List Str)).Nodup by decide +kernel) rfl (GN rfl) (hf:=G6 rfl)) (aM (aB (i:=1) (show ((["part", "kind"]:List Str)++(["wanted"]:List Str)).Nodup by decide +kernel) rfl (GN rfl) (hf:=G6 rfl)) cb))))) (fun _ _ _ _=>(qL (aF bw (pv 1) (pv 2) (aJ _)))) (fun _ _ _ _=>(pv 0))))),?_⟩
  refine⟨_,rfl,_,rfl,t,_,rfl,av.of ht,fun hw=>?_,fun _ p np=>?_⟩
  ·exfalso
   obtain⟨h1,_⟩:=hw
   simp [HT.bP] at h1
  ·have ec:cP (v0::xs) (some 1) none=xs:=by simp [cP,HT.bP]
   rw [ec]
   have sp:=ao.new (o:=.tup xs) np
   refine⟨_,rfl,p,s,rfl,⟨_,av.of af⟩,⟨_,hs.same sp⟩,fun acc na=>?_⟩
   refine uu (K:=K) (a:=p) (b:=s) (xs:=xs) (ys:=ks.map V.str) (fun i zs GL H'=>∃(c1 c2:Option V),GL=[c1,c2,some (.str w)]/\zs=jB w xs ks i/\H' acc=some (.lst zs)/\H' p=some (.tup xs)/\ao H H') ?_ ?_ ?_ ?_
   ·exact⟨none,none,rfl,rfl,af,ao.new na _ _ af,sp.trans (ao.new na)⟩
   ·rintro i zs GL H4 hi ⟨c1,c2,rfl,rfl,ha,hp4,s4⟩
    exact⟨av.of hp4,hs.same s4,ha,eQ (by have:=ze (w:=w) (xs:=xs) (ks:=ks) (i:=i);omega)⟩
   ·rintro i x y zs GL H4 u hx hy hu ⟨c1,c2,rfl,rfl,ha,hp4,s4⟩
    obtain⟨k,rfl,hk⟩:∃k,y=V.str k/\ks[i]?=some k:=by
     rw [G8] at hy
     cases e:ks[i]? with
     | none=>rw [e] at hy;cases hy
     | some k=>rw [e] at hy;exact⟨k,(G5.inj hy).symm,rfl⟩
    have su:=ao.new (o:=.tup [x,.str k]) hu
    refine⟨u,_,rfl,av.of af,rfl,_,_,rfl,_,_,rfl,rfl,?_⟩
    refine⟨_,rfl,_,rfl,rfl,_,rfl,?_⟩
    have hn:=xR (w:=w) hx hk
    by_cases hkw:k=w
    ·rw [if_pos hkw] at hn
     refine cu (decide_eq_true (congrArg V.str hkw)) ?_
     refine⟨_,rfl,su _ _ ha,_,_,rfl,hn.symm,af,?_,?_⟩
     ·rw [au (bN hp4 ha (by intro z;cases z))]
      exact su _ _ hp4
     ·exact (s4.trans su).put (sp.free na)
    ·rw [if_neg hkw,Im] at hn
     refine bc (decide_eq_false fun z=>hkw (V.str.inj z)) ?_
     exact⟨_,_,rfl,hn.symm,su _ _ ha,su _ _ hp4,s4.trans su⟩
   ·rintro zs GL H4 ⟨c1,c2,rfl,rfl,ha,hp4,s4⟩
    rw [zd] at ha
    exact q acc H4 ha s4
theorem yn {f:Addr} {fd:FuncData} (F:b0 K "ways_on" "ways_on" mT f fd) (Z:Bl mg) {aE s0 s1 s2 s3:Addr} (GE:uG K mg aE s0 s1 s2 s3) (O_parts_of_kind:Own P w K mg base "parts_of_kind" 1 ["thing", "kinds", "wanted"] (qW K)):bp P w K mg base bT 3 f fd ["end"] jg:=by
 refine F.ok (k:=2) yk (fun vs H Q E h=>?_) (fun cdv A outer s H vs Q E hr h=>?_)
 ·obtain⟨ea,e,rfl,_⟩:=h
  rfl
 ·obtain⟨ea,e,rfl,he,q⟩:=h
  refine⟨_,(ar (aH (br bF rfl Z.tuple cI (aa (aw O_parts_of_kind (hr.mono (by decide)) rfl (aa (pv 0) (aa (qV GE.tab rfl (aI aN (pv 0) ah (fun _ _=>rfl)) (fun _ _=>rfl)) (aa bh ae)))) ae)))),?_⟩
  obtain⟨xs,ev,hl,hp⟩:=zf e
  rw [ev] at he
  obtain⟨s,hs,ks⟩:=GE.at_ e
  refine⟨_,rfl,_,rfl,ea,_,0,_,rfl,rfl,av.of he,bW,_,s,rfl,hs,ea,s,_,xs,kE e, "piece",rfl,he,.inr ks,hl,fun l H1 hl1 s1=>?_⟩
  rw [hp] at hl1
  exact⟨l,_,rfl,.inl ⟨aU.of hl1,fun t ht=>q t _ af (s1.trans (ao.new ht))⟩⟩
theorem qy {f:Addr} {fd:FuncData} (F:b0 K "without_ways" "without_ways" ia f fd) (Z:Bl mg) (O_ways_on:Own P w K mg base "ways_on" 3 ["end"] jg):bp P w K mg base bT 4 f fd ["end"] mG:=by
 refine F.ok (k:=3) qu (fun vs H Q E h=>?_) (fun cdv A outer s H vs Q E hr h=>?_)
 ·obtain⟨ea,e,rfl,_⟩:=h
  rfl
 ·obtain⟨ea,e,rfl,he,q⟩:=h
  refine⟨_,(ar (aH (gZ iU (pv 0) iS (iT (ba fb (aQ aO rfl Z.len bJ (aa (pv 0) ae)) (aQ aO rfl Z.len bJ (aa (aw O_ways_on (hr.mono (by decide)) rfl (aa (pv 0) ae)) ae))))))),?_⟩
  refine⟨_,rfl,_,rfl,ea,_,rfl,.inr (av.of he),_,rfl,ea,e,rfl,he,fun t H1 ht s1=>⟨t,_,rfl,.inr (av.of ht),_,_,rfl,rfl,?_⟩⟩
  have he1:=s1 _ _ he
  have el:((cx e).length:Int)-(((aR e).map fun k=>V.int (k:Nat)).length:Int)=((jD e).length:Nat):=by cases e <;> rfl
  have ec:cP (cx e) none (some ((jD e).length:Nat))=jD e:=by
   unfold cP
   rw [HT.oC,HT.j1]
   cases e <;> rfl
  refine⟨_,congrArg V.int el,ea,_,rfl,av.of he1,fun hw=>?_,fun _ p hp=>?_⟩
  ·unfold cP at ec
   rw [hw.1,hw.2] at ec
   refine q ea H1 ?_ s1
   rw [he1,<-ec]
   simp
  ·rw [ec]
   exact q p _ af (s1.trans (ao.new hp))
theorem vT {f:Addr} {fd:FuncData} (F:b0 K "names_of" "names_of" kR f fd) (Z:Bl mg) {aD d0 d1 d2 d3 d4:Addr} (GD:tV K mg aD d0 d1 d2 d3 d4) {aE s0 s1 s2 s3:Addr} (GE:uG K mg aE s0 s1 s2 s3) (O_parts_of_kind:Own P w K mg base "parts_of_kind" 1 ["thing", "kinds", "wanted"] (qW K)):bp P w K mg base bT 3 f fd ["plan"] sI:=by
 refine F.ok (k:=2) gg (fun vs H Q E h=>?_) (fun cdv A outer s H vs Q E hr h=>?_)
 ·obtain⟨plv,ps,xs,m,rfl,_⟩:=h
  rfl
 ·obtain⟨plv,ps,xs,m,rfl,hp,pok,hx64,hal,q⟩:=h
  refine⟨_,(ai (aL (i:=1) gg.nd rfl (GN rfl) (cX ae))
   (ai (eM PassesOwn.never rfl (eI (pv 0)) (cG rfl (aM (aB (i:=2) gg.nd rfl (GN rfl)) (aM (aB (i:=3) gg.nd rfl (GN rfl)) cb)))
   (ai (eM PassesOwn.never rfl (eI (pv 2)) (aB (i:=4) gg.nd rfl (GN rfl))
   (ar (dH (fU PySem.F.plainAttrs_list PySem.F.slot_list_extend PySem.F.type_list_extend sg (pv 1) (aa (aw O_parts_of_kind (hr.mono (by decide)) rfl (aa (pv 4) (aa (qV GD.tab rfl (aI aN (pv 4) ah (fun _ _=>rfl)) (fun _ _=>rfl)) (aa bh ae)))) ae)))))
   (ar (dH (fU PySem.F.plainAttrs_list PySem.F.slot_list_extend PySem.F.type_list_extend sg (pv 1) (aa (aw O_parts_of_kind (hr.mono (by decide)) rfl (aa (pv 3) (aa (qV GE.tab rfl (aI aN (pv 3) ah (fun _ _=>rfl)) (fun _ _=>rfl)) (aa bh ae)))) ae))))))
   (ar (aH (br bF rfl Z.tuple cI (aa (aQ (tH rfl) rfl Z.sorted gy (aa (br (zu rfl) rfl Z.set zr (aa (pv 1) ae)) ae)) ae)))))),?_⟩
  obtain⟨pp,vs,rfl,e1,r⟩:=aY.bZ hp
  have hl:=r.len
  refine⟨(by show 0<=sizeLine;decide),fun nm nn=>?_⟩
  have s0:=ao.new (o:=.lst []) nn
  have big:∀(i:Nat) (ys:List Str),ys.length<=4000->(ys.map V.str).length<=sizeLine:=fun i ys h=>by rw [GO];exact GY h (by decide)
  refine⟨_,rfl,pp,rfl,⟨_,av.of (s0 _ _ e1)⟩,gY (K:=K) (a:=pp) (xs:=vs) (fun i GK H'=>∃(u1 u2 u3:Option V),GK=[some (.ref pp),some (.ref nm),u1,u2,u3]/\H' nm=some (.lst ((bV (ps.take i)).map V.str))/\ao H H') ?_ ?_ ?_ ?_⟩
  ·exact⟨_,_,_,rfl,af,s0⟩
  ·rintro i GK H1 hi ⟨u1,u2,u3,rfl,h1,s1⟩
   exact av.of (s1 _ _ e1)
  ·rintro i x GK H1 hi ⟨u1,u2,u3,rfl,h1,s1⟩
   have hlt:i<ps.length:=by
    have:=(G7.mp hi).1
    rw [hl,GO] at this
    exact this
   have hpi:ps[i]?=some ps[i]:=by simp [hlt]
   generalize ps[i]=pe at hpi
   obtain⟨ds,e⟩:=pe
   have hnext:=sH (f:=pNames) hpi
   have hsz:(bV (ps.take (i+1))).length<=4000:=GY (lG (f:=pNames) (i+1)) hal
   have hsz':(bV (ps.take i)).length+((ds.flatMap dZ).length+(jh e).length)<=4000:=by
    have z:=congrArg HI hnext
    unfold bV at hsz ⊢
    rw [z] at hsz
    simp only [GW,pNames] at hsz
    omega
   obtain⟨p',xs',pc,da,ea,ws,ep,e1',el',hx',e2,e3,r3,e4⟩:=fK hp hpi
   cases ep
   rw [e1] at e1'
   cases e1'
   rw [hi] at hx'
   cases hx'
   refine⟨pc,_,rfl,av.of (s1 _ _ e2),rfl,_,_,rfl,_,_,rfl,rfl,?_⟩
   refine⟨_,rfl,da,rfl,⟨_,av.of (s1 _ _ e3)⟩,gY (K:=K) (a:=da) (xs:=ws) (fun j GK H'=>∃(u3:Option V),GK=[some (.ref pp),some (.ref nm),some (.ref da),some (.ref ea),u3]/\H' nm=some (.lst ((bV (ps.take i)++(ds.take j).flatMap dZ).map V.str))/\ao H H') ?_ ?_ ?_ ?_⟩
   ·exact⟨_,rfl,by simpa using h1,s1⟩
   ·rintro j GK H2 hj ⟨u3',rfl,h2,s2⟩
    exact av.of (s2 _ _ e3)
   ·rintro j y GK H2 hj ⟨u3',rfl,h2,s2⟩
    have hjl:j<ds.length:=by
     have:=(G7.mp hj).1
     rw [r3.len,GO] at this
     exact this
    have hdj:ds[j]?=some ds[j]:=by simp [hjl]
    generalize ds[j]=dd at hdj
    obtain⟨v,hv,rd⟩:=r3.get (i:=j) (d:=bG dd) (by rw [G8,hdj];rfl)
    rw [hj] at hv
    cases hv
    obtain⟨dp,rfl,hdp⟩:=qR rd
    have hdp2:=s2 _ _ hdp
    obtain⟨zs,ez,hzl,hpk⟩:=xY dd
    rw [ez] at hdp2
    obtain⟨s,hs,ks⟩:=GD.at_ dd
    have hnj:=sH (f:=dZ) hdj
    have hsj:((ds.take (j+1)).flatMap dZ).length<=(ds.flatMap dZ).length:=lG (f:=dZ) (j+1)
    refine cY ?_
    refine⟨_,rfl,.inl ⟨rfl,_,aU.of h2⟩,_,rfl,_,rfl,dp,_,0,_,rfl,rfl,av.of hdp2,bW,_,s,rfl,hs,dp,s,_,zs,kD dd, "name",rfl,hdp2,.inr ks,hzl,fun l H3 hl3 s3=>?_⟩
    rw [hpk] at hl3
    have h3:=s3 _ _ h2
    refine⟨nm,l,_,_,rfl,rfl,h3,hl3,?_,?_⟩
    ·rw [GO,GO,GW]
     rw [hnj,GW] at hsj
     exact GY (show _<=4000 by omega) (by decide)
    ·refine⟨_,rfl,?_,(s2.trans s3).put nn⟩
     rw [af,hnj,<-HB];simp only [G3]
   ·rintro GK H2 ⟨u3',rfl,h2,s2⟩
    rw [show ws.length=ds.length by rw [r3.len,GO],Hr] at h2
    have e42:=s2 _ _ e4
    obtain⟨zs,ez,hzl,hpk⟩:=xZ e
    rw [ez] at e42
    obtain⟨s,hs,ks⟩:=GE.at_ e
    refine⟨_,rfl,.inl ⟨rfl,_,aU.of h2⟩,_,rfl,_,rfl,ea,_,0,_,rfl,rfl,av.of e42,bW,_,s,rfl,hs,ea,s,_,zs,kE e, "name",rfl,e42,.inr ks,hzl,fun l H3 hl3 s3=>?_⟩
    rw [hpk] at hl3
    have h3:=s3 _ _ h2
    refine⟨nm,l,_,_,rfl,rfl,h3,hl3,?_,?_⟩
    ·rw [GO,GO,GW]
     exact GY (show _<=4000 by omega) (by decide)
    ·refine⟨_,_,_,rfl,?_,(s2.trans s3).put nn⟩
     rw [af,<-G3]
     unfold bV at hnext ⊢
     rw [hnext]
     simp only [pNames,HB]
  ·rintro GK H1 ⟨u1,u2,u3,rfl,h1,s1⟩
   rw [show vs.length=ps.length by rw [hl,GO],Hr] at h1
   have hk:aU K H1 nm (((bV ps).map (Sum.inr:Str->Key)).map kV):=by rw [C6];exact aU.of h1
   refine⟨_,rfl,nm,(bV ps).map Sum.inr,rfl,hk,(by rw [GO];show _+1<4096;omega),fun sa hsa=>?_⟩
   have hf:=Bg pok
   refine⟨sa,LS.dW (bV ps),rfl,(by rw [af,x8]),(by omega),fun l ss hperm hsort hn=>?_⟩
   have s2:=ao.new (o:=cO P w sa (LS.dW ((bV ps).map (Sum.inr:Str->Key)))) hsa
   refine⟨l,_,rfl,.inl ⟨aU.of af,fun t ht=>?_⟩⟩
   exact q t ss _ af hperm hsort (by rw [hperm.length_eq];omega) (((s1.trans s2).trans (ao.new hn)).trans (ao.new ht))
theorem yo {f:Addr} {fd:FuncData} (F:b0 K "lies_in" "lies_in" mU f fd) (Z:Bl mg)  : bp P w K mg base bT 1 f fd ["number", "stretch"] (rA K):=by
 refine F.ok (k:=0) kT (fun vs H Q E h=>?_) (fun cdv A outer s H vs Q E hr h=>?_)
 ·obtain⟨n,q,lo,hi,rfl,_⟩:=h
  rfl
 ·obtain⟨n,q,lo,hi,rfl,hq,k⟩:=h
  refine⟨_,(ai (cN (pv 1) (cG rfl (aM (aB (i:=2) kT.nd rfl (GN rfl)) (aM (aB (i:=3) kT.nd rfl (GN rfl)) cb))))
   (ar (aH (iu (tQ (jZ (gF (pv 2))) (fI (ef m9 (pv 2) (pv 0) (aJ _)))) (fI (tQ (jZ (gF (pv 3))) (fI (ef m9 (pv 0) (pv 3) (aJ _))))))))),?_⟩
  refine⟨_,rfl,q,_,rfl,hq,rfl,_,_,rfl,_,_,rfl,rfl,?_⟩
  cases lo with
  | none =>
   refine⟨_,rfl,_,rfl,bL ⟨_,rfl,bL ?_⟩⟩
   cases hi with
   | none=>exact⟨_,rfl,_,rfl,bL k⟩
   | some b =>
    refine⟨_,rfl,_,rfl,bO ⟨_,rfl,_,rfl,_,_,rfl,rfl,?_⟩⟩
    simpa only [cK,Ik] using k
  | some a =>
   refine⟨_,rfl,_,rfl,bO ⟨_,rfl,_,rfl,_,_,rfl,rfl,_,rfl,?_⟩⟩
   cases hx:decide (a<=n) with
   | false=>exact bO (by have k':=k;simp only [cK,hx,IS] at k';exact k')
   | true =>
    refine bL ?_
    cases hi with
    | none=>exact⟨_,rfl,_,rfl,bL (by have k':=k;simp only [cK,hx,Ik] at k';exact k')⟩
    | some b =>
     refine⟨_,rfl,_,rfl,bO ⟨_,rfl,_,rfl,_,_,rfl,rfl,?_⟩⟩
     have k':=k
     simp only [cK,hx,Ik] at k'
     exact k'
theorem tN {f:Addr} {fd:FuncData} (F:b0 K "part_below" "part_below" jr f fd) (Z:Bl mg)  : bp P w K mg base bT 1 f fd ["stretch", "number"] (mI K gd):=by
 refine F.ok (k:=0) gh (fun vs H Q E h=>?_) (fun cdv A outer s H vs Q E hr h=>?_)
 ·obtain⟨p,n,lo,hi,rfl,_⟩:=h
  rfl
 ·obtain⟨p,n,lo,hi,rfl,hp,q⟩:=h
  refine⟨_,(ai (cN (pv 0) (cG rfl (aM (aB (i:=2) gh.nd rfl (GN rfl)) (aM (aB (i:=3) gh.nd rfl (GN rfl)) cb))))
   (ai (aL (i:=4) gh.nd rfl (GN rfl) (fJ (fH (gF (pv 3))) (ba fb (pv 1) ah) (aQ (lW rfl) rfl Z.min uq (aa (pv 3) (aa (ba fb (pv 1) ah) ae)))))
   (ai (aZ (PW.pt (eZ (fH (gu (pv 2))) (d9 (aF nc (pv 2) (pv 4) (aJ _)))))
   (ar (aH en))
   aP)
   (ar (aH (aV (aa (pv 2) (aa (pv 4) ae)))))))),?_⟩
  refine⟨_,rfl,p,_,rfl,hp,rfl,_,_,rfl,_,_,rfl,rfl,?_⟩
  cases hi with
  | none =>
   refine⟨_,rfl,_,rfl,bL ⟨_,rfl,_,_,rfl,rfl,?_⟩⟩
   cases lo with
   | none =>
    refine⟨_,rfl,_,rfl,bO (bO ⟨_,rfl,_,rfl,ln2,fun l hl=>?_⟩)⟩
    exact q _ _ ⟨l,rfl,af⟩ (ao.new hl)
   | some i =>
    refine⟨_,rfl,_,rfl,bL ⟨_,rfl,_,rfl,_,_,rfl,rfl,_,rfl,?_⟩⟩
    refine cB (fun hc=>?_) (fun hc=>?_)
    ·have hlt:jH none n<i:=of_decide_eq_true hc
     exact q _ _ (by simp only [gd];rw [if_pos hlt];rfl) (ao.refl H)
    ·have hlt:¬jH none n<i:=fun z=>hc (decide_eq_true z)
     refine⟨_,rfl,_,rfl,ln2,fun l hl=>?_⟩
     exact q _ _ (by simp only [gd];rw [if_neg hlt];exact⟨l,rfl,af⟩) (ao.new hl)
  | some j =>
   refine⟨_,rfl,_,rfl,bO ⟨_,rfl,_,rfl,_,_,rfl,rfl,_,_,rfl,?_⟩⟩
   cases lo with
   | none =>
    refine⟨_,rfl,_,rfl,bO (bO ⟨_,rfl,_,rfl,ln2,fun l hl=>?_⟩)⟩
    exact q _ _ ⟨l,rfl,af⟩ (ao.new hl)
   | some i =>
    refine⟨_,rfl,_,rfl,bL ⟨_,rfl,_,rfl,_,_,rfl,rfl,_,rfl,?_⟩⟩
    refine cB (fun hc=>?_) (fun hc=>?_)
    ·have hlt:jH (some j) n<i:=of_decide_eq_true hc
     exact q _ _ (by simp only [gd];rw [if_pos hlt];rfl) (ao.refl H)
    ·have hlt:¬jH (some j) n<i:=fun z=>hc (decide_eq_true z)
     refine⟨_,rfl,_,rfl,ln2,fun l hl=>?_⟩
     exact q _ _ (by simp only [gd];rw [if_neg hlt];exact⟨l,rfl,af⟩) (ao.new hl)
theorem vt {f:Addr} {fd:FuncData} (F:b0 K "part_from" "part_from" jO f fd) (Z:Bl mg)  : bp P w K mg base bT 1 f fd ["stretch", "number"] (mI K ip):=by
 refine F.ok (k:=0) gU (fun vs H Q E h=>?_) (fun cdv A outer s H vs Q E hr h=>?_)
 ·obtain⟨p,n,lo,hi,rfl,_⟩:=h
  rfl
 ·obtain⟨p,n,lo,hi,rfl,hp,q⟩:=h
  refine⟨_,(ai (cN (pv 0) (cG rfl (aM (aB (i:=2) gU.nd rfl (GN rfl)) (aM (aB (i:=3) gU.nd rfl (GN rfl)) cb))))
   (ai (aL (i:=4) gU.nd rfl (GN rfl) (fJ (fH (gF (pv 2))) (pv 1) (aQ (yG rfl) rfl Z.max Eb (aa (pv 2) (aa (pv 1) ae)))))
   (ai (aZ (PW.pt (eZ (fH (gu (pv 3))) (d9 (aF nc (pv 4) (pv 3) (aJ _)))))
   (ar (aH en))
   aP)
   (ar (aH (aV (aa (pv 4) (aa (pv 3) ae)))))))),?_⟩
  refine⟨_,rfl,p,_,rfl,hp,rfl,_,_,rfl,_,_,rfl,rfl,?_⟩
  cases lo with
  | none =>
   refine⟨_,rfl,_,rfl,bL ⟨_,rfl,?_⟩⟩
   cases hi with
   | none =>
    refine⟨_,rfl,_,rfl,bO (bO ⟨_,rfl,_,rfl,ln2,fun l hl=>?_⟩)⟩
    exact q _ _ ⟨l,rfl,af⟩ (ao.new hl)
   | some j =>
    refine⟨_,rfl,_,rfl,bL ⟨_,rfl,_,rfl,_,_,rfl,rfl,_,rfl,?_⟩⟩
    refine cB (fun hc=>?_) (fun hc=>?_)
    ·have hlt:j<jI none n:=of_decide_eq_true hc
     exact q _ _ (by simp only [ip];rw [if_pos hlt];rfl) (ao.refl H)
    ·have hlt:¬j<jI none n:=fun z=>hc (decide_eq_true z)
     refine⟨_,rfl,_,rfl,ln2,fun l hl=>?_⟩
     exact q _ _ (by simp only [ip];rw [if_neg hlt];exact⟨l,rfl,af⟩) (ao.new hl)
  | some i =>
   refine⟨_,rfl,_,rfl,bO ⟨_,rfl,_,rfl,_,_,rfl,?_⟩⟩
   cases hi with
   | none =>
    refine⟨_,rfl,_,rfl,bO (bO ⟨_,rfl,_,rfl,ln2,fun l hl=>?_⟩)⟩
    exact q _ _ ⟨l,rfl,af⟩ (ao.new hl)
   | some j =>
    refine⟨_,rfl,_,rfl,bL ⟨_,rfl,_,rfl,_,_,rfl,rfl,_,rfl,?_⟩⟩
    refine cB (fun hc=>?_) (fun hc=>?_)
    ·have hlt:j<jI (some i) n:=of_decide_eq_true hc
     exact q _ _ (by simp only [ip];rw [if_pos hlt];rfl) (ao.refl H)
    ·have hlt:¬j<jI (some i) n:=fun z=>hc (decide_eq_true z)
     refine⟨_,rfl,_,rfl,ln2,fun l hl=>?_⟩
     exact q _ _ (by simp only [ip];rw [if_neg hlt];exact⟨l,rfl,af⟩) (ao.new hl)
theorem yq {f:Addr} {fd:FuncData} (F:b0 K "part_at" "part_at" mV f fd) (Z:Bl mg) (O_lies_in:Own P w K mg base "lies_in" 1 ["number", "stretch"] (rA K)):bp P w K mg base bT 2 f fd ["stretch", "number"] (mI K sA):=by
  refine F.ok (k:=1) yl (fun vs H Q E h=>?_) (fun cdv A outer s H vs Q E hr h=>?_)
  . obtain⟨p,n,lo,hi,rfl,_⟩:=h
    rfl
  . obtain⟨p,n,lo,hi,rfl,hp,q⟩:=h
    refine⟨_,(ai (aZ (iZ (aw O_lies_in (hr.mono (by decide)) rfl (aa (pv 1) (aa (pv 0) ae))))
      (ar (aH (aV (aa (pv 1) (aa (pv 1) ae)))))
      aP)
      (ar (aH en))),?_⟩
    refine⟨_,rfl,_,rfl,n,p,lo,hi,rfl,hp,_,rfl,?_⟩
    refine cB (fun hc=>?_) (fun hc=>?_)
    . refine⟨_,rfl,_,rfl,ln2,fun l hl=>?_⟩
      exact q _ _ (by simp only [sA,if_pos hc];exact⟨l,rfl,af⟩) (ao.new hl)
    . exact q _ _ (by simp only [sA,if_neg hc];rfl) (ao.refl H)
theorem rQ {f:Addr} {fd:FuncData} (F:b0 K "part_beside" "part_beside" iH f fd) (Z:Bl mg)  : bp P w K mg base bT 1 f fd ["stretch", "number"] (mI K jJ):=by
 refine F.ok (k:=0) ib (fun vs H Q E h=>?_) (fun cdv A outer s H vs Q E hr h=>?_)
 ·obtain⟨p,n,lo,hi,rfl,_⟩:=h
  rfl
 ·obtain⟨p,n,lo,hi,rfl,hp,q⟩:=h
  refine⟨_,(ai (cN (pv 0) (cG rfl (aM (aB (i:=2) ib.nd rfl (GN rfl)) (aM (aB (i:=3) ib.nd rfl (GN rfl)) cb))))
   (ai (aZ (PW.pt (eZ (aF bw (pv 2) (pv 1) (aJ _)) (d9 (aF bw (pv 3) (pv 1) (aJ _)))))
   (ar (aH en))
   aP)
   (ai (aZ (aF bw (pv 2) (pv 1) (aJ _))
   (ar (aH (aV (aa (ba cH (pv 1) ah) (aa (pv 3) ae)))))
   aP)
   (ai (aZ (aF bw (pv 3) (pv 1) (aJ _))
   (ar (aH (aV (aa (pv 2) (aa (ba fb (pv 1) ah) ae)))))
   aP)
   (ar (aH (aV (aa (pv 2) (aa (pv 3) ae))))))))),?_⟩
  refine⟨_,rfl,p,_,rfl,hp,rfl,_,_,rfl,_,_,rfl,rfl,?_⟩
  refine⟨_,rfl,_,rfl,mq,_,rfl,?_⟩
  rw [pJ]
  refine cB (fun hc=>?_) (fun hc=>?_)
  ·have h1:lo=some n:=of_decide_eq_true hc
   refine⟨_,rfl,_,rfl,mq,_,rfl,?_⟩
   rw [pJ]
   refine cB (fun hd=>?_) (fun hd=>?_)
   ·have h2:hi=some n:=of_decide_eq_true hd
    exact q _ _ (by simp only [jJ,if_pos h1,if_pos h2];rfl) (ao.refl H)
   ·have h2:¬hi=some n:=fun z=>hd (decide_eq_true z)
    refine⟨_,rfl,_,rfl,mq,_,rfl,?_⟩
    rw [pJ,hc]
    refine bL ⟨_,rfl,_,_,rfl,rfl,_,rfl,ln2,fun l hl=>?_⟩
    exact q _ _ (by simp only [jJ,if_pos h1,if_neg h2];exact⟨l,rfl,af⟩) (ao.new hl)
  ·have h1:¬lo=some n:=fun z=>hc (decide_eq_true z)
   refine bO ?_
   refine⟨_,rfl,_,rfl,mq,_,rfl,?_⟩
   rw [pJ,show decide (lo=some n)=false from decide_eq_false h1]
   refine bO ?_
   refine⟨_,rfl,_,rfl,mq,_,rfl,?_⟩
   rw [pJ]
   refine cB (fun hd=>?_) (fun hd=>?_)
   ·have h2:hi=some n:=of_decide_eq_true hd
    refine⟨_,rfl,_,rfl,_,_,rfl,rfl,ln2,fun l hl=>?_⟩
    exact q _ _ (by simp only [jJ,if_neg h1,if_pos h2];exact⟨l,rfl,af⟩) (ao.new hl)
   ·have h2:¬hi=some n:=fun z=>hd (decide_eq_true z)
    refine⟨_,rfl,_,rfl,ln2,fun l hl=>?_⟩
    exact q _ _ (by simp only [jJ,if_neg h1,if_neg h2];exact⟨l,rfl,af⟩) (ao.new hl)
theorem yr {f:Addr} {fd:FuncData} (F:b0 K "part_of" "part_of" mW f fd) (Z:Bl mg) (O_part_below:Own P w K mg base "part_below" 1 ["stretch", "number"] (mI K gd)) (O_part_from:Own P w K mg base "part_from" 1 ["stretch", "number"] (mI K ip)) (O_part_at:Own P w K mg base "part_at" 2 ["stretch", "number"] (mI K sA)) (O_part_beside:Own P w K mg base "part_beside" 1 ["stretch", "number"] (mI K jJ)):bp P w K mg base bT 3 f fd ["stretch", "word", "number", "side"] (wY K):=by
 refine F.ok (k:=2) ym (fun vs H Q E h=>?_) (fun cdv A outer s H vs Q E hr h=>?_)
 ·obtain⟨p,w,n,side,lo,hi,rfl,_⟩:=h
  rfl
 ·obtain⟨p,w,n,side,lo,hi,rfl,hp,q⟩:=h
  refine⟨_,(ai (aZ (aF bw (pv 1) bh (aJ _))
   (ar (aH (fJ (iZ (pv 3)) (aw O_part_below (hr.mono (by decide)) rfl (aa (pv 0) (aa (pv 2) ae))) (aw O_part_from (hr.mono (by decide)) rfl (aa (pv 0) (aa (pv 2) ae))))))
   aP)
   (ar (aH (fJ (iZ (pv 3)) (aw O_part_at (hr.mono (by decide)) rfl (aa (pv 0) (aa (pv 2) ae))) (aw O_part_beside (hr.mono (by decide)) rfl (aa (pv 0) (aa (pv 2) ae))))))),?_⟩
  refine⟨_,rfl,rfl,_,rfl,?_⟩
  by_cases hw:w = "less"
  ·subst hw
   rw [zb]
   refine bL ⟨_,rfl,_,rfl,?_⟩
   cases side with
   | true=>exact bL ⟨_,rfl,_,rfl,p,n,lo,hi,rfl,hp,fun v H1 r s1=>q v H1 (by simp only [fE,nv,if_true];exact r) s1⟩
   | false=>exact bO ⟨_,rfl,_,rfl,p,n,lo,hi,rfl,hp,fun v H1 r s1=>q v H1 (by simp only [fE,nv,if_true,Ie,if_false];exact r) s1⟩
  ·have e:decide (V.str w=V.str "less")=false:=decide_eq_false fun z=>hw (V.str.inj z)
   rw [e]
   refine bO ⟨_,rfl,_,rfl,?_⟩
   cases side with
   | true=>exact bL ⟨_,rfl,_,rfl,p,n,lo,hi,rfl,hp,fun v H1 r s1=>q v H1 (by simp only [fE,wK,if_neg hw,if_true];exact r) s1⟩
   | false=>exact bO ⟨_,rfl,_,rfl,p,n,lo,hi,rfl,hp,fun v H1 r s1=>q v H1 (by simp only [fE,wK,if_neg hw,Ie,if_false];exact r) s1⟩
theorem vv {f:Addr} {fd:FuncData} (F:b0 K "is_within" "is_within" jP f fd) (Z:Bl mg)  : bp P w K mg base bT 1 f fd ["one", "other"] (sS K):=by
 refine F.ok (k:=0) fO (fun vs H Q E h=>?_) (fun cdv A outer s H vs Q E hr h=>?_)
 ·obtain⟨p,q,s,t,rfl,_⟩:=h
  rfl
 ·obtain⟨p,q,s,t,rfl,hp,hq,k⟩:=h
  refine⟨_,(ai (cN (pv 1) (cG rfl (aM (aB (i:=2) fO.nd rfl (GN rfl)) (aM (aB (i:=3) fO.nd rfl (GN rfl)) cb))))
   (ai (aL (i:=4) fO.nd rfl (GN rfl) (tQ (jZ (gF (pv 2))) (fI (iu (jZ (gu (aI aN (pv 0) ah (fun _ _=>rfl)))) (fI (ef m9 (pv 2) (aI aN (pv 0) ah (fun _ _=>rfl)) (aJ _)))))))
   (ai (aL (i:=5) fO.nd rfl (GN rfl) (tQ (jZ (gF (pv 3))) (fI (iu (jZ (gu (aI aN (pv 0) ah (fun _ _=>rfl)))) (fI (ef m9 (aI aN (pv 0) ah (fun _ _=>rfl)) (pv 3) (aJ _)))))))
   (ar (aH (iu (pv 4) (fI (pv 5)))))))),?_⟩
  obtain⟨lo,hi⟩:=s
  obtain⟨lo2,hi2⟩:=t
  have k:Q (.bl (jM lo lo2&&iq hi hi2)) H:=k
  refine⟨_,rfl,q,_,rfl,hq,rfl,_,_,rfl,_,_,rfl,rfl,?_⟩
  cases lo2 with
  | none =>
   refine⟨_,rfl,_,rfl,bL ?_⟩
   cases hi2 with
   | none =>
    refine⟨_,rfl,_,rfl,bL ?_⟩
    exact⟨_,rfl,_,rfl,bL ⟨_,rfl,k⟩⟩
   | some b =>
    refine⟨_,rfl,_,rfl,bO ?_⟩
    refine⟨_,rfl,p,_,1,_,rfl,rfl,hp,cR,_,rfl,?_⟩
    cases hi with
    | none=>exact bO ⟨_,rfl,_,rfl,bL ⟨_,rfl,k⟩⟩
    | some c =>
     refine bL ⟨_,rfl,p,_,1,_,rfl,rfl,hp,cR,_,rfl,_,_,rfl,rfl,?_⟩
     exact⟨_,rfl,_,rfl,bL ⟨_,rfl,k⟩⟩
  | some a =>
   refine⟨_,rfl,_,rfl,bO ?_⟩
   refine⟨_,rfl,p,_,0,_,rfl,rfl,hp,bW,_,rfl,?_⟩
   cases lo with
   | none =>
    refine bO ?_
    cases hi2 with
    | none =>
     refine⟨_,rfl,_,rfl,bL ?_⟩
     exact⟨_,rfl,_,rfl,bO k⟩
    | some b =>
     refine⟨_,rfl,_,rfl,bO ?_⟩
     refine⟨_,rfl,p,_,1,_,rfl,rfl,hp,cR,_,rfl,?_⟩
     cases hi with
     | none=>exact bO ⟨_,rfl,_,rfl,bO k⟩
     | some c =>
      refine bL ⟨_,rfl,p,_,1,_,rfl,rfl,hp,cR,_,rfl,_,_,rfl,rfl,?_⟩
      exact⟨_,rfl,_,rfl,bO k⟩
   | some a' =>
    refine bL ⟨_,rfl,_,rfl,p,_,0,_,rfl,rfl,hp,bW,_,_,rfl,rfl,?_⟩
    cases hi2 with
    | none =>
     refine⟨_,rfl,_,rfl,bL ?_⟩
     refine⟨_,rfl,_,rfl,?_⟩
     cases hx:decide (a<=a') with
     | true=>exact bL ⟨_,rfl,by have k':=k;simp only [jM,iq,hx] at k';exact k'⟩
     | false=>exact bO (by have k':=k;simp only [jM,iq,hx] at k';exact k')
    | some b =>
     refine⟨_,rfl,_,rfl,bO ?_⟩
     refine⟨_,rfl,p,_,1,_,rfl,rfl,hp,cR,_,rfl,?_⟩
     cases hi with
     | none =>
      refine bO ⟨_,rfl,_,rfl,?_⟩
      cases hx:decide (a<=a') with
      | true=>exact bL ⟨_,rfl,by have k':=k;simp only [jM,iq,hx] at k';exact k'⟩
      | false=>exact bO (by have k':=k;simp only [jM,iq,hx] at k';exact k')
     | some c =>
      refine bL ⟨_,rfl,p,_,1,_,rfl,rfl,hp,cR,_,rfl,_,_,rfl,rfl,?_⟩
      refine⟨_,rfl,_,rfl,?_⟩
      cases hx:decide (a<=a') with
      | true=>exact bL ⟨_,rfl,by have k':=k;simp only [jM,iq,hx,Ik] at k';exact k'⟩
      | false=>exact bO (by have k':=k;simp only [jM,iq,hx,IS] at k';exact k')
theorem vU {f:Addr} {fd:FuncData} (F:b0 K "facts_of" "facts_of" kU f fd) (Z:Bl mg) {aA:Addr} (GA:hZ K mg aA)  : bp P w K mg base bT 1 f fd ["stretches"] (mC aA):=by
 refine F.ok (k:=0) vR (fun vs H Q E h=>?_) (fun cdv A outer s H vs Q E hr h=>?_)
 ·obtain⟨d,kvs,ks,T,rfl,_⟩:=h
  rfl
 ·obtain⟨d,kvs,ks,T,rfl,hd,tb,hl,q⟩:=h
  refine⟨_,(ar (aH (br bF rfl Z.tuple cI (aa (de ["name"] ["stretches"] [0] rfl (m8 (aQ (jf rfl) rfl Z.sorted gy (aa (pv 0) ae))) rfl (by decide +kernel) (by decide +kernel) (by decide +kernel) ⟨⟨rfl,.inl rfl,rfl⟩,True.intro⟩ (fun _ _ _ _=>(aB (i:=0) (show ((["name"]:List Str)++(["stretches"]:List Str)).Nodup by decide +kernel) rfl (GN rfl) (hf:=G6 rfl))) (fun _ _ _ _=>(qL (aF (EC (aA:=aA) hr.units GA) (nj (dt hr) (pv 1) (pv 0) (fun _ _=>rfl)) (fT (v:=.ref aA) rfl GA.pM rfl) (aJ _)))) (fun _ _ _ _=>(aV (aa (pv 0) (aa (nj (dt hr) (pv 1) (pv 0) (fun _ _=>rfl)) ae))))) ae)))),?_⟩
  refine⟨_,rfl,d,kvs,ks,rfl,hd,tb.keys,hl,fun l ss hp hs hn=>?_⟩
  have srt:ji ss:=⟨mB hs,hp.nodup_iff.mpr tb.nd⟩
  have hl1:(upd H l (.lst (ss.map V.str))) l=some (.lst (ss.map V.str)):=af
  have s1:ao H (upd H l (.lst (ss.map V.str))):=ao.new hn
  have hssl:ss.length<64:=by rw [hp.length_eq];exact hl
  generalize (upd H l (.lst (ss.map V.str)))=H1 at hl1 s1
  refine⟨l,rfl,⟨_,aU.of hl1⟩,fun acc na=>?_⟩
  refine ng (K:=K) (a:=l) (xs:=ss.map V.str) (fun i ys GL H'=>∃c:Option V,GL=[c,some (.ref d)]/\aX H' ys (((ss.take i).filter fun x=>!decide (T x=cE)).map (dF T))/\H' acc=some (.lst ys)/\ao H1 H') ?_ ?_ ?_ ?_
  ·exact⟨none,rfl,.nil,af,ao.new na⟩
  ·rintro i ys GL H2 hi ⟨c,rfl,r,ha,s2⟩
   refine⟨aU.of (s2 _ _ hl1),ha,?_⟩
   have h1:=r.len
   rw [GO] at h1
   have h2:=HV (fun x=>!decide (T x=cE)) (ss.take i)
   have h3:=List.length_take_le i ss
   have h4:(ss.take i).length<=ss.length:=by rw [Hm];omega
   exact bE (by omega)
  ·rintro i x ys GL H2 hi ⟨c,rfl,r,ha,s2⟩
   obtain⟨y,hy,rfl⟩:∃y,ss[i]?=some y/\x=V.str y:=by
    rw [G8] at hi
    cases e:ss[i]? with
    | none=>rw [e] at hi;cases hi
    | some k=>rw [e] at hi;exact⟨k,rfl,(G5.inj hi).symm⟩
   have hym:y∈ks:=hp.mem_iff.mp (G9 hy)
   have tk:ss.take (i+1)=ss.take i++[y]:=by rw [Hi,hy];rfl
   obtain⟨v,ev,sv,_⟩:∃v,cg kvs (Sum.inr y)=some v/\SV aA H v (T y)/\y∈ks:=by
    rcases tb.val y with ⟨_,_,c⟩ | h
    ·exact absurd hym c
    ·exact h
   have sv2:SV aA H2 v (T y):=sv.aK fun p xs e=>s2 _ _ (s1 _ _ e)
   have hd2:H2 d=some (.dK kvs):=s2 _ _ (s1 _ _ hd)
   have dg:dP H2 d (.str y) (some v):=by
    have:=dP.k (k:=Sum.inr y) hd2
    rw [ev] at this
    exact this
   refine cY ?_
   refine⟨_,rfl,_,rfl,d,v,rfl,dg,T y,sv2,rfl,_,rfl,?_⟩
   by_cases hT:T y=cE
   ·refine bc (by rw [decide_eq_true hT];rfl) ?_
    refine⟨_,rfl,?_,ha,s2⟩
    rw [tk,Jf,IP (by rw [decide_eq_true hT];decide),List.filter_nil,Im]
    exact r
   ·refine cu (by rw [decide_eq_false hT];rfl) ?_
    refine⟨_,rfl,_,rfl,_,rfl,d,v,rfl,dg,ln2,fun t nt=>?_⟩
    have s3:=ao.new (o:=.tup [.str y,v]) nt
    have ht:(upd H2 t (.tup [.str y,v])) t=some (.tup [.str y,v]):=af
    generalize (upd H2 t (.tup [.str y,v]))=H3 at s3 ht
    have sh:SH H3 v (T y):=by
     rcases sv2 with h | ⟨_,h⟩
     ·exact h.aK fun p xs e=>s3 _ _ e
     ·exact absurd h hT
    have ha3:=s3 _ _ ha
    refine⟨ha3,_,rfl,?_,af,(s2.trans s3).put na⟩
    rw [tk,Jf,Jk (by rw [decide_eq_false hT];rfl),List.filter_nil,G3]
    refine aX.app ((r.same s3 (gM T _)).put ha3 (gM T _)) ?_
    refine aY.aK (H:=H3) (fun p zs e=>by rw [au (bN e ha3 (by intro z;cases z))];exact e) (.tup ht (.cons (.str y) (.cons sh.rd .nil))) ?_
    have:=gM T [y]
    simpa [cM] using this
  ·rintro ys GL H2 ⟨c,rfl,r,ha,s2⟩
   rw [GO,Hr] at r
   refine⟨acc,ys,rfl,.inl ⟨aU.of ha,fun t nt=>?_⟩⟩
   refine q _ _ ⟨t,ys,_,rfl,af,srt.filter _,fun x=>?_,r.same (ao.new nt) (gM T _)⟩ ((s1.trans s2).trans (ao.new nt))
   rw [HD]
   constructor
   ·rintro⟨_,h⟩ e
    rw [decide_eq_true e] at h
    cases h
   ·intro h
    refine⟨?_,by rw [decide_eq_false h];rfl⟩
    rcases tb.val x with ⟨_,a,_⟩ | ⟨_,_,_,a⟩
    ·exact absurd a h
    ·exact hp.mem_iff.mpr a
theorem BM {f:Addr} {fd:FuncData} (F:b0 K "known" "known" rH f fd) (Z:Bl mg) {aA:Addr} (GA:hZ K mg aA)  : bp P w K mg base bT 1 f fd ["facts", "name"] (wX aA):=by
 refine F.ok (k:=0) BI (fun vs H Q E h=>?_) (fun cdv A outer s H vs Q E hr h=>?_)
 ·obtain⟨fv,x,T,rfl,_⟩:=h
  rfl
 ·obtain⟨fv,x,T,rfl,hf,q⟩:=h
  refine⟨_,(ar (aH (d8 (dt hr) (br (fF rfl) rfl Z.dict ny (aa (pv 0) ae)) (pv 1) (fT (v:=.ref aA) rfl GA.pM rfl) ⟨rfl,rfl,rfl,rfl⟩))),?_⟩
  obtain⟨fp,xs,ss,rfl,hfp,srt,hmem,rf⟩:=hf
  obtain⟨kvs,l1,l2,l3,tb⟩:=FV.tb aA srt hmem rf
  refine⟨_,rfl,fp,xs,kvs,rfl,hfp,l1,l2,l3,fun d nd=>?_⟩
  obtain⟨v,ev,sv⟩:=tb.getD x
  exact⟨d,rfl,.inl ⟨kvs,.inl af⟩,_,rfl,_,v,dP.k (k:=Sum.inr x) af,ev,q v _ (sv.aK fun p zs e=>ao.new nd _ _ e) (ao.new nd)⟩
theorem tO {f:Addr} {fd:FuncData} (F:b0 K "with_known" "with_known" jt f fd) (Z:Bl mg) {aA:Addr} (GA:hZ K mg aA) (O_facts_of:Own P w K mg base "facts_of" 1 ["stretches"] (mC aA)):bp P w K mg base bT 2 f fd ["facts", "name", "stretch"] (nZ aA):=by
 refine F.ok (k:=1) lL (fun vs H Q E h=>?_) (fun cdv A outer s H vs Q E hr h=>?_)
 ·obtain⟨fv,sv,x,T,s,rfl,_⟩:=h
  rfl
 ·obtain⟨fv,sv,x,T,s,rfl,hf,hs,bB,q⟩:=h
  refine⟨_,(ai (aL (i:=3) lL.nd rfl (GN rfl) (br (fF rfl) rfl Z.dict ny (aa (pv 0) ae)))
   (ai (fW (dt hr) (pv 3) (pv 1) (pv 2) rfl)
   (ar (aH (aw O_facts_of (hr.mono (by decide)) rfl (aa (pv 3) ae)))))),?_⟩
  obtain⟨fp,xs,ss,rfl,hfp,srt,hmem,rf⟩:=hf
  obtain⟨kvs,l1,l2,l3,tb⟩:=FV.tb aA srt hmem rf
  have hssl:ss.length<=62:=bB ss (fun x hx=>(hmem x).mp hx) srt.nd
  have kl:kvs.length=ss.length:=by have:=congrArg HI tb.keys;simpa using this
  refine⟨_,rfl,fp,xs,kvs,rfl,hfp,l1,l2,l3,fun d nd=>?_⟩
  have k1:∀p zs,H p=some (.tup zs)->(upd H d (.dK kvs)) p=some (.tup zs):=fun p zs e=>ao.new nd _ _ e
  refine⟨_,rfl,_,rfl,_,rfl,d,_,rfl,hV.k (k:=Sum.inr x) af (bE (by omega)),?_⟩
  obtain⟨ks2,t2,k2,m2⟩:=(tb.aK k1).put x (hs.aK k1)
  have hd1:(upd H d (.dK kvs)) d=some (.dK kvs):=af
  refine⟨_,rfl,d,_,ks2,_,rfl,af,t2.aK (fun p zs e=>by rw [au (bN e hd1 (by intro z;cases z))];exact e),(by omega),fun v H2 f2 s2=>q v H2 f2 (((ao.new nd).put nd).trans s2)⟩
theorem BN {f:Addr} {fd:FuncData} (F:b0 K "holds" "holds" rJ f fd) (Z:Bl mg) (O_lies_in:Own P w K mg base "lies_in" 1 ["number", "stretch"] (rA K)):bp P w K mg base bT 2 f fd ["facts", "worths"] uU:=by
 refine F.ok (k:=1) BJ (fun vs H Q E h=>?_) (fun cdv A outer s H vs Q E hr h=>?_)
 ·obtain⟨fv,d,kvs,w,T,rfl,_⟩:=h
  rfl
 ·obtain⟨fv,d,kvs,w,T,rfl,hf,hd,dw,bB,q⟩:=h
  refine⟨_,(ar (aH (aQ (jC rfl) rfl Z.all pW (aa (de ["name", "stretch"] ["worths"] [1] rfl (eI (pv 0)) rfl (by decide +kernel) (by decide +kernel) (by decide +kernel) ⟨⟨rfl,.inl rfl,rfl⟩,True.intro⟩ (fun _ _ _ _=>(j4 (K:=K) (n:=2) rfl (cG (n:=2) rfl (aM (aB (i:=0) (show ((["name", "stretch"]:List Str)++(["worths"]:List Str)).Nodup by decide +kernel) rfl (GN rfl) (hf:=G6 rfl)) (aM (aB (i:=1) (show ((["name", "stretch"]:List Str)++(["worths"]:List Str)).Nodup by decide +kernel) rfl (GN rfl) (hf:=G6 rfl)) cb))))) (fun _ _ _ _=>dI) (fun _ _ _ _=>(aw O_lies_in (hr.mono (by decide)) rfl (aa (d8 (dt hr) (pv 2) (pv 0) ah ⟨rfl,rfl,rfl,rfl⟩) (aa (pv 1) ae))))) ae)))),?_⟩
  obtain⟨fp,xs,ss,rfl,hfp,srt,hmem,rf⟩:=hf
  refine⟨_,rfl,fp,rfl,⟨_,av.of hfp⟩,fun acc na=>?_⟩
  refine jd (K:=K) (a:=fp) (xs:=xs) (fun i ys GL H'=>∃c1 c2:Option V,GL=[c1,c2,some (.ref d)]/\ys=((ss.take i).map fun y=>cK (w y) (T y).1 (T y).2).map V.bl/\H' acc=some (.lst ys)/\ao H H') ?_ ?_ ?_ ?_
  ·exact⟨none,none,rfl,rfl,af,ao.new na⟩
  ·rintro i ys GL H1 hi ⟨c1,c2,rfl,rfl,ha,s1⟩
   refine⟨av.of (s1 _ _ hfp),ha,?_⟩
   rw [GO,GO,Hm]
   have h1:=bB ss (fun x hx=>(hmem x).mp hx) srt.nd
   exact bE (by omega)
  ·rintro i x ys GL H1 hi ⟨c1,c2,rfl,rfl,ha,s1⟩
   have hil:i<ss.length:=by
    have:=(G7.mp hi).1
    rw [rf.len,GO] at this
    exact this
   have hyi:ss[i]?=some ss[i]:=by simp [hil]
   generalize ss[i]=y at hyi
   obtain⟨v,hv,rd⟩:=rf.get (i:=i) (d:=dF T y) (by rw [G8,hyi];rfl)
   rw [hi] at hv
   cases hv
   obtain⟨t,q2,rfl,ht,hq2⟩:=zC rd
   refine⟨t,_,rfl,av.of (s1 _ _ ht),rfl,_,_,rfl,_,_,rfl,rfl,?_⟩
   refine gK ?_
   refine bL ?_
   refine⟨_,rfl,d,rfl,.inl ⟨kvs,.inl (s1 _ _ hd)⟩,_,rfl,_,_,dP.k (k:=Sum.inr y) (s1 _ _ hd),dw y,_,rfl,w y,q2,(T y).1,(T y).2,rfl,av.of (s1 _ _ hq2),?_⟩
   refine⟨ha,_,_,rfl,?_,af,s1.put na⟩
   rw [Hi,hyi,Jw,G3,G3]
   rfl
  ·rintro ys GL H1 ⟨c1,c2,rfl,rfl,ha,s1⟩
   have hxl:xs.length=ss.length:=by rw [rf.len,GO]
   rw [hxl,Hr] at ha
   refine⟨acc,_,rfl,aU.of ha,?_⟩
   exact q _ H1 (zJ hmem) s1
theorem z9 {f:Addr} {fd:FuncData} (F:b0 K "covers" "covers" oZ f fd) (Z:Bl mg) {aA:Addr} (GA:hZ K mg aA) (O_is_within:Own P w K mg base "is_within" 1 ["one", "other"] (sS K)):bp P w K mg base bT 2 f fd ["facts", "others"] uV:=by
 refine F.ok (k:=1) tF (fun vs H Q E h=>?_) (fun cdv A outer s H vs Q E hr h=>?_)
 ·obtain⟨fv,gv,T,U,rfl,_⟩:=h
  rfl
 ·obtain⟨fv,gv,T,U,rfl,hf,hg,bB,q⟩:=h
  refine⟨_,(ai (aL (i:=2) tF.nd rfl (G6 rfl) (br (fF rfl) rfl Z.dict ny (aa (pv 1) ae)))
   (ar (aH (aQ (jC rfl) rfl Z.all pW (aa (de ["name", "stretch"] ["stretches"] [2] rfl (eI (pv 0)) rfl (by decide +kernel) (by decide +kernel) (by decide +kernel) ⟨⟨rfl,.inl rfl,rfl⟩,True.intro⟩ (fun _ _ _ _=>(j4 (K:=K) (n:=2) rfl (cG (n:=2) rfl (aM (aB (i:=0) (show ((["name", "stretch"]:List Str)++(["stretches"]:List Str)).Nodup by decide +kernel) rfl (GN rfl) (hf:=G6 rfl)) (aM (aB (i:=1) (show ((["name", "stretch"]:List Str)++(["stretches"]:List Str)).Nodup by decide +kernel) rfl (GN rfl) (hf:=G6 rfl)) cb))))) (fun _ _ _ _=>dI) (fun _ _ _ _=>(aw O_is_within (hr.mono (by decide)) rfl (aa (d8 (dt hr) (pv 2) (pv 0) (fT (v:=.ref aA) rfl GA.pM rfl) ⟨rfl,rfl,rfl,rfl⟩) (aa (pv 1) ae))))) ae))))),?_⟩
  obtain⟨fp,xs,ss,rfl,hfp,srt,hmem,rf⟩:=hf
  obtain⟨gp,ys0,ss0,rfl,hgp,srt0,hmem0,rg⟩:=hg
  obtain⟨kvs,l1,l2,l3,tb⟩:=FV.tb aA srt0 hmem0 rg
  refine⟨_,rfl,gp,ys0,kvs,rfl,hgp,l1,l2,l3,fun d nd=>?_⟩
  have s0:=ao.new (o:=.dK kvs) nd
  have hd0:(upd H d (.dK kvs)) d=some (.dK kvs):=af
  have rf2:=rf.same s0 (gM T ss)
  have hfp2:=s0 _ _ hfp
  have tb2:=tb.aK fun p zs e=>s0 _ _ e
  generalize (upd H d (.dK kvs))=HH at s0 hd0 rf2 hfp2 tb2
  refine⟨_,rfl,fp,rfl,⟨_,av.of hfp2⟩,fun acc na=>?_⟩
  refine jd (K:=K) (a:=fp) (xs:=xs) (fun i ys GL H'=>∃c1 c2:Option V,GL=[c1,c2,some (.ref d)]/\ys=((ss.take i).map fun y=>jE (U y) (T y)).map V.bl/\H' acc=some (.lst ys)/\ao HH H') ?_ ?_ ?_ ?_
  ·exact⟨none,none,rfl,rfl,af,ao.new na⟩
  ·rintro i ys GL H1 hi ⟨c1,c2,rfl,rfl,ha,s1⟩
   refine⟨av.of (s1 _ _ hfp2),ha,?_⟩
   rw [GO,GO,Hm]
   have h1:=bB ss (fun x hx=>(hmem x).mp hx) srt.nd
   exact bE (by omega)
  ·rintro i x ys GL H1 hi ⟨c1,c2,rfl,rfl,ha,s1⟩
   have hil:i<ss.length:=by
    have:=(G7.mp hi).1
    rw [rf2.len,GO] at this
    exact this
   have hyi:ss[i]?=some ss[i]:=by simp [hil]
   generalize ss[i]=y at hyi
   obtain⟨v,hv,rd⟩:=rf2.get (i:=i) (d:=dF T y) (by rw [G8,hyi];rfl)
   rw [hi] at hv
   cases hv
   obtain⟨t,q2,rfl,ht,hq2⟩:=zC rd
   refine⟨t,_,rfl,av.of (s1 _ _ ht),rfl,_,_,rfl,_,_,rfl,rfl,?_⟩
   refine gK ?_
   refine bL ?_
   obtain⟨u,eu,su⟩:=(tb2.aK fun p zs e=>s1 _ _ e).getD y
   obtain⟨qa,rfl,hqa⟩:=su.sq GA
   refine⟨_,rfl,d,rfl,.inl ⟨kvs,.inl (s1 _ _ hd0)⟩,_,rfl,_,_,dP.k (k:=Sum.inr y) (s1 _ _ hd0),eu,_,rfl,qa,q2,U y,T y,rfl,hqa,av.of (s1 _ _ hq2),?_⟩
   refine⟨ha,_,_,rfl,?_,af,s1.put na⟩
   rw [Hi,hyi,Jw,G3,G3]
   rfl
  ·rintro ys GL H1 ⟨c1,c2,rfl,rfl,ha,s1⟩
   have hxl:xs.length=ss.length:=by rw [rf2.len,GO]
   rw [hxl,Hr] at ha
   refine⟨acc,_,rfl,aU.of ha,?_⟩
   exact q _ H1 (zK hmem) (s0.trans s1)
theorem BO {f:Addr} {fd:FuncData} (F:b0 K "moved" "moved" rK f fd) (Z:Bl mg)  : bp P w K mg base bT 1 f fd ["stretch", "number"] (wU K):=by
 refine F.ok (k:=0) o1 (fun vs H Q E h=>?_) (fun cdv A outer s H vs Q E hr h=>?_)
 ·obtain⟨p,s,n,rfl,_⟩:=h
  rfl
 ·obtain⟨p,s,n,rfl,hp,q⟩:=h
  refine⟨_,(ai (cN (pv 0) (cG rfl (aM (aB (i:=2) o1.nd rfl (GN rfl)) (aM (aB (i:=3) o1.nd rfl (GN rfl)) cb))))
   (ar (aH (aV (aa (fJ (fH (gF (pv 2))) en (ba cH (pv 2) (pv 1))) (aa (fJ (fH (gF (pv 3))) en (ba cH (pv 3) (pv 1))) ae)))))),?_⟩
  obtain⟨lo,hi⟩:=s
  refine⟨_,rfl,p,_,rfl,hp,rfl,_,_,rfl,_,_,rfl,rfl,?_⟩
  cases lo with
  | none =>
   refine⟨_,rfl,_,rfl,bL ?_⟩
   cases hi with
   | none=>exact⟨_,rfl,_,rfl,bL ⟨ln2,fun t nt=>q _ _ ⟨t,rfl,af⟩ (ao.new nt)⟩⟩
   | some b=>exact⟨_,rfl,_,rfl,bO ⟨_,rfl,_,rfl,_,_,rfl,rfl,ln2,fun t nt=>q _ _ ⟨t,rfl,af⟩ (ao.new nt)⟩⟩
  | some a =>
   refine⟨_,rfl,_,rfl,bO ⟨_,rfl,_,rfl,_,_,rfl,rfl,?_⟩⟩
   cases hi with
   | none=>exact⟨_,rfl,_,rfl,bL ⟨ln2,fun t nt=>q _ _ ⟨t,rfl,af⟩ (ao.new nt)⟩⟩
   | some b=>exact⟨_,rfl,_,rfl,bO ⟨_,rfl,_,rfl,_,_,rfl,rfl,ln2,fun t nt=>q _ _ ⟨t,rfl,af⟩ (ao.new nt)⟩⟩
theorem nJ {f:Addr} {fd:FuncData} (F:b0 K "stretch_behind" "stretch_behind" gm f fd) (Z:Bl mg) {aA:Addr} (GA:hZ K mg aA) (O_moved:Own P w K mg base "moved" 1 ["stretch", "number"] (wU K)):bp P w K mg base bT 2 f fd ["stretches", "deed"] (pV aA):=by
  refine F.ok (k:=1) iL (fun vs H Q E h=>?_) (fun cdv A outer s H vs Q E hr h=>?_)
  . obtain⟨d,w,kvs,ks,T,dd,rfl,_⟩:=h
    rfl
  . obtain⟨d,w,kvs,ks,T,dd,rfl,hd,tb,hw,q⟩:=h
    refine⟨_,(ai (cS (lS (i:=2) (j:=3) rfl iL.nd rfl rfl (by decide) rfl rfl (aa (aI aN (pv 1) ah (fun _ _=>rfl)) (aa (aI aN (pv 1) ah (fun _ _=>rfl)) ae)) rfl))
      (ai (aZ (aF bw (pv 2) bh (aJ _))
      (ar (aH (aV (aa (aI aN (pv 1) ah (fun _ _=>rfl)) (aa (aI aN (pv 1) ah (fun _ _=>rfl)) ae)))))
      aP)
      (ai (aZ (aF bw (pv 2) bh (aJ _))
      (ar (aH (d8 (dt hr) (pv 0) (aI aN (pv 1) ah (fun _ _=>rfl)) (fT (v:=.ref aA) rfl GA.pM rfl) ⟨rfl,rfl,rfl,rfl⟩)))
      aP)
      (ai (aZ (aF bw (pv 2) bh (aJ _))
      (ar (aH (aw O_moved (hr.mono (by decide)) rfl (aa (d8 (dt hr) (pv 0) (pv 3) (fT (v:=.ref aA) rfl GA.pM rfl) ⟨rfl,rfl,rfl,rfl⟩) (aa (aI aN (pv 1) ah (fun _ _=>rfl)) ae)))))
      aP)
      (ai (aZ (aF bw (pv 2) bh (aJ _))
      (ar (aH (fT (v:=.ref aA) rfl GA.pM rfl)))
      aP)
      (ar (aH (d8 (dt hr) (pv 0) (pv 3) (fT (v:=.ref aA) rfl GA.pM rfl) ⟨rfl,rfl,rfl,rfl⟩)))))))),?_⟩
    cases dd
    case put x n =>
      refine⟨fun σ' H'=>σ' = [some (.ref d),some (.ref w),some (.str "put"),some (.str x)]/\H=H',⟨_,rfl,w,_,0,_,rfl,rfl,av.of hw,bW,_,rfl,w,_,1,_,rfl,rfl,av.of hw,cR,_,_,rfl,rfl,rfl⟩,?_⟩
      rintro σ' H' ⟨rfl,rfl⟩
      refine⟨_,rfl,rfl,_,rfl,?_⟩
      refine cu (show decide (V.str "put" = V.str "put")=true by decide +kernel) ?_
      exact⟨_,rfl,w,_,2,_,rfl,rfl,av.of hw,at2,_,rfl,w,_,2,_,rfl,rfl,av.of hw,at2,ln2,fun t nt=>q _ _ (.inl ⟨t,rfl,af⟩) (ao.new nt)⟩
    case copy x y =>
      refine⟨fun σ' H'=>σ' = [some (.ref d),some (.ref w),some (.str "copy"),some (.str x)]/\H=H',⟨_,rfl,w,_,0,_,rfl,rfl,av.of hw,bW,_,rfl,w,_,1,_,rfl,rfl,av.of hw,cR,_,_,rfl,rfl,rfl⟩,?_⟩
      rintro σ' H' ⟨rfl,rfl⟩
      refine⟨_,rfl,rfl,_,rfl,?_⟩
      refine bc (show decide (V.str "copy" = V.str "put")=false by decide +kernel) ?_
      refine⟨_,rfl,rfl,_,rfl,?_⟩
      refine cu (show decide (V.str "copy" = V.str "copy")=true by decide +kernel) ?_
      obtain⟨v,ev,sv⟩:=tb.getD y
      exact⟨_,rfl,d,rfl,.inl ⟨kvs,.inl hd⟩,_,rfl,w,_,2,_,rfl,rfl,av.of hw,at2,_,v,dP.k (k:=Sum.inr y) hd,ev,q _ _ sv (ao.refl H)⟩
    case add x n =>
      refine⟨fun σ' H'=>σ' = [some (.ref d),some (.ref w),some (.str "add"),some (.str x)]/\H=H',⟨_,rfl,w,_,0,_,rfl,rfl,av.of hw,bW,_,rfl,w,_,1,_,rfl,rfl,av.of hw,cR,_,_,rfl,rfl,rfl⟩,?_⟩
      rintro σ' H' ⟨rfl,rfl⟩
      refine⟨_,rfl,rfl,_,rfl,?_⟩
      refine bc (show decide (V.str "add" = V.str "put")=false by decide +kernel) ?_
      refine⟨_,rfl,rfl,_,rfl,?_⟩
      refine bc (show decide (V.str "add" = V.str "copy")=false by decide +kernel) ?_
      refine⟨_,rfl,rfl,_,rfl,?_⟩
      refine cu (show decide (V.str "add" = V.str "add")=true by decide +kernel) ?_
      obtain⟨v,ev,sv⟩:=tb.getD x
      obtain⟨qa,rfl,hqa⟩:=sv.sq GA
      exact⟨_,rfl,d,rfl,.inl ⟨kvs,.inl hd⟩,_,rfl,_,_,dP.k (k:=Sum.inr x) hd,ev,_,rfl,w,_,2,_,rfl,rfl,av.of hw,at2,qa,T x,n,rfl,hqa,fun v H' sh s1=>q _ _ (.inl sh) s1⟩
    case read x =>
      refine⟨fun σ' H'=>σ' = [some (.ref d),some (.ref w),some (.str "read"),some (.str x)]/\H=H',⟨_,rfl,w,_,0,_,rfl,rfl,av.of hw,bW,_,rfl,w,_,1,_,rfl,rfl,av.of hw,cR,_,_,rfl,rfl,rfl⟩,?_⟩
      rintro σ' H' ⟨rfl,rfl⟩
      refine⟨_,rfl,rfl,_,rfl,?_⟩
      refine bc (show decide (V.str "read" = V.str "put")=false by decide +kernel) ?_
      refine⟨_,rfl,rfl,_,rfl,?_⟩
      refine bc (show decide (V.str "read" = V.str "copy")=false by decide +kernel) ?_
      refine⟨_,rfl,rfl,_,rfl,?_⟩
      refine bc (show decide (V.str "read" = V.str "add")=false by decide +kernel) ?_
      refine⟨_,rfl,rfl,_,rfl,?_⟩
      refine cu (show decide (V.str "read" = V.str "read")=true by decide +kernel) ?_
      exact q _ _ (.inr ⟨rfl,rfl⟩) (ao.refl H)
    case tell x =>
      refine⟨fun σ' H'=>σ' = [some (.ref d),some (.ref w),some (.str "tell"),some (.str x)]/\H=H',⟨_,rfl,w,_,0,_,rfl,rfl,av.of hw,bW,_,rfl,w,_,1,_,rfl,rfl,av.of hw,cR,_,_,rfl,rfl,rfl⟩,?_⟩
      rintro σ' H' ⟨rfl,rfl⟩
      refine⟨_,rfl,rfl,_,rfl,?_⟩
      refine bc (show decide (V.str "tell" = V.str "put")=false by decide +kernel) ?_
      refine⟨_,rfl,rfl,_,rfl,?_⟩
      refine bc (show decide (V.str "tell" = V.str "copy")=false by decide +kernel) ?_
      refine⟨_,rfl,rfl,_,rfl,?_⟩
      refine bc (show decide (V.str "tell" = V.str "add")=false by decide +kernel) ?_
      refine⟨_,rfl,rfl,_,rfl,?_⟩
      refine bc (show decide (V.str "tell" = V.str "read")=false by decide +kernel) ?_
      obtain⟨v,ev,sv⟩:=tb.getD x
      exact⟨_,rfl,d,rfl,.inl ⟨kvs,.inl hd⟩,_,rfl,_,v,dP.k (k:=Sum.inr x) hd,ev,q _ _ sv (ao.refl H)⟩
theorem Aa {f:Addr} {fd:FuncData} (F:b0 K "behind" "behind" o2 f fd) (Z:Bl mg) {aA:Addr} (GA:hZ K mg aA) (O_stretch_behind:Own P w K mg base "stretch_behind" 2 ["stretches", "deed"] (pV aA)) (O_facts_of:Own P w K mg base "facts_of" 1 ["stretches"] (mC aA)):bp P w K mg base bT 3 f fd ["facts", "deeds"] oO:=by
 refine F.ok (k:=2) mX (fun vs H Q E h=>?_) (fun cdv A outer s H vs Q E hr h=>?_)
 ·obtain⟨fv,p,ws,ds,T,m,rfl,_⟩:=h
  rfl
 ·obtain⟨fv,p,ws,ds,T,m,rfl,hf,hp,r,bB,hm,q⟩:=h
  refine⟨_,(ai (aL (i:=2) mX.nd rfl (GN rfl) (br (fF rfl) rfl Z.dict ny (aa (pv 0) ae)))
   (ai (eM PassesOwn.never rfl (eI (pv 1)) (aB (i:=3) mX.nd rfl (GN rfl))
   (ar (fW (dt hr) (pv 2) (aI aN (pv 3) ah (fun _ _=>rfl)) (aw O_stretch_behind (hr.mono (by decide)) rfl (aa (pv 2) (aa (pv 3) ae))) rfl)))
   (ar (aH (aw O_facts_of (hr.mono (by decide)) rfl (aa (pv 2) ae)))))),?_⟩
  obtain⟨fp,xs,ss,rfl,hfp,srt,hmem,rf⟩:=hf
  obtain⟨kvs,l1,l2,l3,tb⟩:=FV.tb aA srt hmem rf
  have hssl:ss.length<=m:=bB ss (fun x hx=>(hmem x).mp hx) srt.nd
  refine⟨_,rfl,fp,xs,kvs,rfl,hfp,l1,l2,l3,fun d nd=>?_⟩
  have tb1:Tb aA (upd H d (.dK kvs)) kvs ss T:=tb.aK fun p xs e=>ao.new nd _ _ e
  refine⟨_,rfl,p,rfl,⟨_,av.of (ao.new nd _ _ hp)⟩,gY (K:=K) (a:=p) (xs:=ws) (fun i GK H'=>∃(c:Option V) (kvs':List (Key×V)) (ks':List Str),GK=[some (.ref fp),some (.ref p),some (.ref d),c]/\H' d=some (.dK kvs')/\Tb aA H' kvs' ks' (cw T (ds.take i))/\ks'.length<=m+i/\ao H H') ?_ ?_ ?_ ?_⟩
  ·exact⟨none,kvs,ss,rfl,af,tb1,hssl,ao.new nd⟩
  ·rintro i GK H1 hi ⟨c,kvs1,ks1,rfl,h1,t1,k1,s1⟩
   exact av.of (s1 _ _ hp)
  ·rintro i x GK H1 hi ⟨c,kvs1,ks1,rfl,h1,t1,k1,s1⟩
   have hil:i<ds.length:=by
    have:=(G7.mp hi).1
    rw [r.len,GO] at this
    exact this
   have hdi:ds[i]?=some ds[i]:=by simp [hil]
   generalize ds[i]=dd at hdi
   obtain⟨v,hv,rd⟩:=r.get (i:=i) (d:=bG dd) (by rw [G8,hdi];rfl)
   rw [hi] at hv
   cases hv
   obtain⟨dp,rfl,hdp⟩:=qR rd
   have tk:cw T (ds.take (i+1))=q8 (cw T (ds.take i)) dd:=by
    unfold cw
    rw [Hi,hdi,Jw,Jh]
    rfl
   refine cY ?_
   refine⟨_,rfl,_,rfl,d,dp,kvs1,ks1,_,dd,rfl,h1,t1,s1 _ _ hdp,fun v H2 sv s2=>?_⟩
   have h2:=s2 _ _ h1
   have kl:kvs1.length=ks1.length:=by have:=congrArg HI t1.keys;simpa using this
   refine⟨_,rfl,_,rfl,dp,_,1,_,rfl,rfl,av.of (s2 _ _ (s1 _ _ hdp)),AR dd,d,_,rfl,hV.k (k:=Sum.inr (pL dd)) h2 (bE (by omega)),?_⟩
   obtain⟨ks2,t2,k2,_⟩:=(t1.aK fun p xs e=>s2 _ _ e).put (pL dd) sv
   refine⟨_,_,ks2,rfl,af,?_,by omega,(s1.trans s2).put nd⟩
   rw [tk]
   exact t2.aK fun p xs e=>by rw [au (bN e h2 (by intro z;cases z))];exact e
  ·rintro GK H1 ⟨c,kvs1,ks1,rfl,h1,t1,k1,s1⟩
   have hwl:ws.length=ds.length:=by rw [r.len,GO]
   rw [hwl,Hr] at t1
   refine⟨_,rfl,d,kvs1,ks1,_,rfl,h1,t1,(by omega),fun v H2 f2 s2=>q v H2 f2 (s1.trans s2)⟩
theorem qA {f:Addr} {fd:FuncData} (F:b0 K "known_beyond" "known_beyond" ic f fd) (Z:Bl mg) {aA:Addr} (GA:hZ K mg aA) (O_ways_on:Own P w K mg base "ways_on" 3 ["end"] jg) (O_known:Own P w K mg base "known" 1 ["facts", "name"] (wX aA)) (O_part_of:Own P w K mg base "part_of" 3 ["stretch", "word", "number", "side"] (wY K)) (O_with_known:Own P w K mg base "with_known" 2 ["facts", "name", "stretch"] (nZ aA)):bp P w K mg base bT 4 f fd ["facts", "end"] (oR aA):=by
  refine F.ok (k:=3) dA (fun vs H Q E h=>?_) (fun cdv A outer s H vs Q E hr h=>?_)
  . obtain⟨fv,ea,T,e,rfl,_⟩:=h
    rfl
  . obtain⟨fv,ea,T,e,rfl,hf,he,bB,q⟩:=h
    refine⟨_,(ai (aL (i:=2) dA.nd rfl (GN rfl) (aw O_ways_on (hr.mono (by decide)) rfl (aa (pv 1) ae)))
      (ai (aZ (aF gH (aQ aO rfl Z.len bJ (aa (pv 2) ae)) ah (aJ _))
      (ar (aH (br bF rfl Z.tuple cI (aa (de ["way"] ["facts"] [0] rfl (eI (pv 2)) rfl (by decide +kernel) (by decide +kernel) (by decide +kernel) ⟨⟨rfl,.inl rfl,rfl⟩,True.intro⟩ (fun _ _ _ _=>(aB (i:=0) (show ((["way"]:List Str)++(["facts"]:List Str)).Nodup by decide +kernel) rfl (GN rfl) (hf:=G6 rfl))) (fun _ _ _ _=>dI) (fun _ _ _ _=>(pv 1))) ae))))
      aP)
      (ai (cS (cN (aV (aa (aI aN (pv 1) ah (fun _ _=>rfl)) (aa (aI aN (pv 1) ah (fun _ _=>rfl)) (aa (aI aN (pv 1) ah (fun _ _=>rfl)) ae)))) (cG rfl (aM (aB (i:=3) dA.nd rfl (G6 rfl)) (aM (aB (i:=4) dA.nd rfl (G6 rfl)) (aM (aB (i:=5) dA.nd rfl (G6 rfl)) cb))))))
      (ai (aL (i:=6) dA.nd rfl (G6 rfl) (aw O_known (hr.mono (by decide)) rfl (aa (pv 0) (aa (pv 4) ae))))
      (ai (oE (i:=7) ["side"] ["stretch", "word", "number"] [6,3,5] rfl dA.nd rfl rfl rfl (eI (aV (aa fS (aa fS ae)))) rfl (by decide +kernel) (by decide +kernel) (by decide +kernel) ⟨⟨rfl,.inl rfl,rfl⟩,⟨⟨rfl,.inl rfl,rfl⟩,⟨⟨rfl,.inl rfl,rfl⟩,True.intro⟩⟩⟩ (fun _ _ _ _=>(aB (i:=0) (show ((["side"]:List Str)++(["stretch", "word", "number"]:List Str)).Nodup by decide +kernel) rfl (GN rfl) (hf:=G6 rfl))) (fun _ _ _ _=>dI) (fun _ _ _ _=>(aw O_part_of (hr.mono (by decide)) rfl (aa (pv 1) (aa (pv 2) (aa (pv 3) (aa (pv 0) ae)))))))
      (ar (aH (br bF rfl Z.tuple cI (aa (de ["part"] ["facts", "name"] [0,4] rfl (m8 (pv 7)) rfl (by decide +kernel) (by decide +kernel) (by decide +kernel) ⟨⟨rfl,.inl rfl,rfl⟩,⟨⟨rfl,.inl rfl,rfl⟩,True.intro⟩⟩ (fun _ _ _ _=>(aB (i:=0) (show ((["part"]:List Str)++(["facts", "name"]:List Str)).Nodup by decide +kernel) rfl (GN rfl) (hf:=G6 rfl))) (fun _ _ _ _=>dI) (fun _ _ _ _=>(fJ (fH (gF (pv 0))) en (aw O_with_known (hr.mono (by decide)) rfl (aa (pv 1) (aa (pv 2) (aa (pv 0) ae))))))) ae))))))))),?_⟩
    refine⟨_,rfl,ea,e,rfl,he,fun wt H1 hw s1=>?_⟩
    have he1:=s1 _ _ he
    have hf1:=hf.same s1
    refine⟨_,rfl,wt,_,rfl,.inr (av.of hw),_,_,rfl,rfl,_,rfl,?_⟩
    by_cases hl:(aR e).length<2
    . refine cu (decide_eq_true (by rw [GO];omega)) ?_
      refine⟨_,rfl,wt,rfl,⟨_,av.of hw⟩,fun acc na=>?_⟩
      refine jd (K:=K) (a:=wt) (xs:=(aR e).map fun k=>V.int (k:Nat)) (fun i zs GL H'=>∃c:Option V,GL=[c,some fv]/\zs=IX i fv/\H' acc=some (.lst zs)/\ao H1 H') ?_ ?_ ?_ ?_
      . exact⟨none,rfl,rfl,af,ao.new na⟩
      . rintro i zs GL H2 hi ⟨c,rfl,rfl,ha,s2⟩
        refine⟨av.of (s2 _ _ hw),ha,?_⟩
        rw [IY]
        rw [GO] at hi
        exact bE (by omega)
      . rintro i x zs GL H2 hi ⟨c,rfl,rfl,ha,s2⟩
        refine cY ?_
        refine gK ?_
        refine bL ?_
        refine⟨_,rfl,ha,_,rfl,?_,af,s2.put na⟩
        rw [<-List.replicate_succ']
      . rintro zs GL H2 ⟨c,rfl,rfl,ha,s2⟩
        rw [GO] at ha
        refine⟨acc,_,rfl,.inl ⟨aU.of ha,fun t nt=>?_⟩⟩
        refine q t _ _ af ?_ ((s1.trans s2).trans (ao.new nt))
        rw [Dg hl]
        exact wZ (hf1.same (s2.trans (ao.new nt))) _
    . refine bc (decide_eq_false (by rw [GO];omega)) ?_
      cases e with
      | stop=>exact absurd (by show 0<2;omega) hl
      | go p=>exact absurd (by show 1<2;omega) hl
      | bu b x n p r =>
        refine⟨fun σ' H'=>σ' = [some fv,some (.ref ea),some (.ref wt),some (.str (wT b)),some (.str x),some (.int n),none,none]/\ao H1 H',?_,?_⟩
        . refine⟨_,rfl,ea,_,0,_,rfl,rfl,av.of he1,bW,_,rfl,ea,_,1,_,rfl,rfl,av.of he1,cR,_,rfl,ea,_,2,_,rfl,rfl,av.of he1,at2,si,fun tt htt=>?_⟩
          exact⟨tt,_,rfl,av.of af,rfl,_,_,rfl,_,_,rfl,_,_,rfl,rfl,rfl,ao.new htt⟩
        rintro σ' H2 ⟨rfl,s2⟩
        refine⟨_,rfl,_,rfl,fv,x,T,rfl,hf1.same s2,fun sv H3 hsv s3=>?_⟩
        obtain⟨sp,rfl,hsp⟩:=hsv.sq GA
        have s13:=s2.trans s3
        refine⟨ln2,fun st hst=>⟨st,rfl,⟨_,av.of af⟩,fun acc na=>?_⟩⟩
        have s4:=ao.new (o:=.tup [.bl true,.bl false]) hst
        have hst4:(upd H3 st (.tup [.bl true,.bl false])) st=some (.tup [.bl true,.bl false]):=af
        generalize (upd H3 st (.tup [.bl true,.bl false]))=H4 at s4 hst4 na
        refine jd (K:=K) (a:=st) (xs:=[.bl true,.bl false]) (fun i zs GL H'=>∃c:Option V,GL=[c,some (.ref sp),some (.str (wT b)),some (.int n)]/\n5 H' zs ([dJ T b x n true,dJ T b x n false].take i)/\H' acc=some (.lst zs)/\ao H4 H') ?_ ?_ ?_ ?_
        . exact⟨none,rfl,.nil,af,ao.new na⟩
        . rintro i zs GL H5 hi ⟨c,rfl,rv,ha,s5⟩
          refine⟨av.of (s5 _ _ hst4),ha,?_⟩
          have h1:=Paired.length rv
          rw [Hm] at h1
          exact bE (by rw [h1];exact GY (Nat.min_le_right _ _) (by show 2<=1000;decide))
        . rintro i y zs GL H5 hi ⟨c,rfl,rv,ha,s5⟩
          obtain⟨side,rfl,hsd⟩:∃side:Bool,y=.bl side/\[dJ T b x n true,dJ T b x n false][i]?=some (dJ T b x n side):=by
            match i,hi with
            | 0,hi=>cases hi;exact⟨true,rfl,rfl⟩
            | 1,hi=>cases hi;exact⟨false,rfl,rfl⟩
            | i+2,hi=>simp at hi
          refine cY ?_
          refine gK ?_
          refine bL ?_
          refine⟨_,rfl,_,rfl,_,rfl,_,rfl,sp,wT b,n,side,_,_,rfl,hsp.same (s4.trans s5),fun v H6 r6 s6=>?_⟩
          have ha6:=s6 _ _ ha
          refine⟨ha6,_,rfl,?_,af,(s5.trans s6).put na⟩
          rw [Hi,hsd]
          exact eS ((rv.same s6).put ha6) (.cons (RV.put r6 ha6) .nil)
        . rintro zs GL H5 ⟨c,rfl,rv,ha,s5⟩
          have s15:=s13.trans (s4.trans s5)
          have rv:n5 H5 zs [dJ T b x n true,dJ T b x n false]:=rv
          have rvl:zs.length=2:=Paired.length rv
          refine⟨_,rfl,acc,rfl,⟨_,aU.of ha⟩,fun ac2 na2=>?_⟩
          refine ng (K:=K) (a:=acc) (xs:=zs) (fun i us GL H'=>∃c:Option V,GL=[c,some fv,some (.str x)]/\lI H' us ((gQ T (.bu b x n p r)).take i)/\H' ac2=some (.lst us)/\ao H5 H') ?_ ?_ ?_ ?_
          . exact⟨none,rfl,.nil,af,ao.new na2⟩
          . rintro i us GL H6 hi ⟨c,rfl,bv,ha2,s6⟩
            refine⟨aU.of (s6 _ _ ha),ha2,?_⟩
            have h1:=Paired.length bv
            rw [Hm] at h1
            exact bE (by rw [h1];exact GY (Nat.min_le_right _ _) (by show 2<=1000;decide))
          . rintro i y us GL H6 hi ⟨c,rfl,bv,ha2,s6⟩
            obtain⟨rs,hrs,hry⟩:=fN rv hi
            have hb:(gQ T (.bu b x n p r))[i]?=some (rs.map (cm T x)):=by
              show ([dJ T b x n true,dJ T b x n false].map fun z:Rs=>Option.map (cm T x) z)[i]?=_
              rw [G8,hrs];rfl
            refine cY ?_
            refine gK ?_
            refine bL ?_
            cases rs with
            | none =>
              cases (show y=V.bC from hry)
              refine⟨_,rfl,_,rfl,bL ?_⟩
              refine⟨ha2,_,rfl,?_,af,s6.put na2⟩
              rw [Hi,hb]
              refine eS (bv.aK fun p zs e=>?_) (.cons rfl .nil)
              rw [au (bN e ha2 (by intro z;cases z))];exact e
            | some s =>
              have hsv6:SV aA H6 y s:=RV.sv (hry.same s6)
              obtain⟨yp,rfl,hyp⟩:∃yp,y=.ref yp/\True:=by
                obtain⟨a1,b1⟩:=s
                obtain⟨yp,e,_⟩:=hry
                exact⟨yp,e,trivial⟩
              refine⟨_,rfl,_,rfl,bO ?_⟩
              refine⟨_,rfl,_,rfl,_,rfl,fv,.ref yp,x,T,s,rfl,hf1.same (s13.trans (s4.trans (s5.trans s6))),hsv6,bB,fun v H7 f7 s7=>?_⟩
              have ha7:=s7 _ _ ha2
              refine⟨ha7,_,rfl,?_,af,(s6.trans s7).put na2⟩
              rw [Hi,hb]
              have kt:∀p zs,H7 p=some (.tup zs)->(upd H7 ac2 (.lst (us++[v]))) p=some (.tup zs):=fun p zs e=>by rw [au (bN e ha7 (by intro z;cases z))];exact e
              exact eS ((bv.same s7).aK kt) (.cons (FV.aK f7 kt) .nil)
          . rintro us GL H6 ⟨c,rfl,bv,ha2,s6⟩
            rw [rvl] at bv
            refine⟨ac2,_,rfl,.inl ⟨aU.of ha2,fun t nt=>?_⟩⟩
            exact q t _ _ af (lI.same (show lI H6 us (gQ T (.bu b x n p r)) from bv) (ao.new nt)) ((s1.trans (s15.trans s6)).trans (ao.new nt))
theorem BP {f:Addr} {fd:FuncData} (F:b0 K "leads" "leads" rL f fd) (Z:Bl mg) (O_known_beyond:Own P w K mg base "known_beyond" 4 ["facts", "end"] (oR aA)) (O_ways_on:Own P w K mg base "ways_on" 3 ["end"] jg):bp P w K mg base bT 5 f fd ["facts", "end"] (rB aA):=by
  refine F.ok (k:=4) vp (fun vs H Q E h=>?_) (fun cdv A outer s H vs Q E hr h=>?_)
  . obtain⟨fv,ea,T,e,rfl,_⟩:=h
    rfl
  . obtain⟨fv,ea,T,e,rfl,hf,he,bB,q⟩:=h
    refine⟨_,(ai (aL (i:=2) vp.nd rfl (GN rfl) (aw O_known_beyond (hr.mono (by decide)) rfl (aa (pv 0) (aa (pv 1) ae))))
      (ar (aH (br bF rfl Z.tuple cI (aa (de ["way", "there"] [] [] rfl (ur rfl Z.zip (aa (aw O_ways_on (hr.mono (by decide)) rfl (aa (pv 1) ae)) (aa (pv 2) ae))) rfl (by decide +kernel) (by decide +kernel) (by decide +kernel) True.intro (fun _ _ _ _=>(j4 (K:=K) (n:=2) rfl (cG (n:=2) rfl (aM (aB (i:=0) (show ((["way", "there"]:List Str)++([]:List Str)).Nodup by decide +kernel) rfl (GN rfl) (hf:=G6 rfl)) (aM (aB (i:=1) (show ((["way", "there"]:List Str)++([]:List Str)).Nodup by decide +kernel) rfl (GN rfl) (hf:=G6 rfl)) cb))))) (fun _ _ _ _=>(qL (fH (gu (pv 1))))) (fun _ _ _ _=>(aV (aa (pv 0) (aa (pv 1) ae))))) ae))))),?_⟩
    refine⟨_,rfl,_,rfl,fv,ea,T,e,rfl,hf,he,bB,fun bt us H1 hb bv s1=>?_⟩
    refine⟨_,rfl,ea,e,rfl,s1 _ _ he,fun wt H2 hw s2=>?_⟩
    have hb2:=s2 _ _ hb
    have bv2:=bv.same s2
    refine⟨_,rfl,wt,bt,rfl,⟨_,av.of hw⟩,⟨_,av.of hb2⟩,fun acc na=>?_⟩
    refine uu (K:=K) (a:=wt) (b:=bt) (xs:=(aR e).map fun k=>V.int (k:Nat)) (ys:=us) (fun i zs GL H'=>∃(c1 c2:Option V),GL=[c1,c2]/\mJ H' zs ((((aR e).zip (gQ T e)).take i).filterMap fun p=>p.2.map fun U=>(p.1,U))/\zs.length<=i/\H' acc=some (.lst zs)/\ao H2 H') ?_ ?_ ?_ ?_
    . exact⟨none,none,rfl,.nil,GQ _,af,ao.new na⟩
    . rintro i zs GL H3 hi ⟨c1,c2,rfl,pv,hz,ha,s3⟩
      refine⟨av.of (s3 _ _ hw),av.of (s3 _ _ hb2),ha,?_⟩
      have h1:i<=(aR e).length:=by rw [GO] at hi;omega
      have h2:(aR e).length<=2:=by cases e <;> (show _<=2) <;> simp [aR]
      exact bE (by omega)
    . rintro i x y zs GL H3 u hx hy hu ⟨c1,c2,rfl,pv,hz,ha,s3⟩
      obtain⟨k,hk,rfl⟩:∃k,(aR e)[i]?=some k/\x=V.int (k:Nat):=by
        rw [G8] at hx
        cases z:(aR e)[i]? with
        | none=>rw [z] at hx;cases hx
        | some k=>rw [z] at hx;exact⟨k,rfl,(G5.inj hx).symm⟩
      obtain⟨o,ho,hyo⟩:=fN bv2 hy
      have hnext:=zM (T:=T) hk ho
      have su:=ao.new (o:=.tup [.int (k:Nat),y]) hu
      have hu4:(upd H3 u (.tup [.int (k:Nat),y])) u=some (.tup [.int (k:Nat),y]):=af
      generalize (upd H3 u (.tup [.int (k:Nat),y]))=H4 at su hu4
      refine⟨u,_,rfl,av.of hu4,rfl,_,_,rfl,_,_,rfl,rfl,?_⟩
      refine⟨_,rfl,_,rfl,?_⟩
      cases o with
      | none =>
        cases (show y=V.bC from hyo)
        refine bO ?_
        refine⟨_,_,rfl,?_,Hl hz,su _ _ ha,s3.trans su⟩
        rw [hnext]
        simpa using pv.same su
      | some U =>
        obtain⟨yp,zsy,ssy,rfl,_⟩:=id hyo
        refine bL ?_
        refine⟨_,rfl,_,rfl,ln2,fun t nt=>?_⟩
        have s5:=ao.new (o:=.tup [.int (k:Nat),.ref yp]) nt
        have ht:(upd H4 t (.tup [.int (k:Nat),.ref yp])) t=some (.tup [.int (k:Nat),.ref yp]):=af
        generalize (upd H4 t (.tup [.int (k:Nat),.ref yp]))=H5 at s5 ht
        have ha5:=s5 _ _ (su _ _ ha)
        have kt:∀p ws,H5 p=some (.tup ws)->(upd H5 acc (.lst (zs++[V.ref t]))) p=some (.tup ws):=fun p ws e=>by rw [au (bN e ha5 (by intro z;cases z))];exact e
        refine⟨ha5,_,_,rfl,?_,(by rw [GW];show _+1<=_;omega),af,(s3.trans (su.trans s5)).put na⟩
        rw [hnext]
        exact eS ((pv.same (su.trans s5)).aK kt) (.cons ⟨t,.ref yp,rfl,kt _ _ ht,FV.aK (FV.same hyo (s3.trans (su.trans s5))) kt⟩ .nil)
    . rintro zs GL H3 ⟨c1,c2,rfl,pv,hz,ha,s3⟩
      have hm:min ((aR e).map fun k=>V.int (k:Nat)).length us.length=((aR e).zip (gQ T e)).length:=by
        rw [List.length_zip,GO,Paired.length bv2]
      rw [hm,Hr] at pv
      refine⟨acc,_,rfl,.inl ⟨aU.of ha,fun t nt=>?_⟩⟩
      exact q t zs _ af (mJ.same (show mJ H3 zs (cQ T e) from pv) (ao.new nt)) (((s1.trans s2).trans s3).trans (ao.new nt))
theorem BQ {f:Addr} {fd:FuncData} (F:b0 K "start" "start" rM f fd) (Z:Bl mg) (O_names_of:Own P w K mg base "names_of" 3 ["plan"] sI):bp P w K mg base bT 4 f fd ["plan"] w4:=by
 refine F.ok (k:=3) BK (fun vs H Q E h=>?_) (fun cdv A outer s H vs Q E hr h=>?_)
 ·obtain⟨plv,ps,xs,m,rfl,_⟩:=h
  rfl
 ·obtain⟨plv,ps,xs,m,rfl,hp,pok,hx,hal,q⟩:=h
  refine⟨_,(ar (aH (br bF rfl Z.tuple cI (aa (de ["name"] [] [] rfl (eI (aw O_names_of (hr.mono (by decide)) rfl (aa (pv 0) ae))) rfl (by decide +kernel) (by decide +kernel) (by decide +kernel) True.intro (fun _ _ _ _=>(aB (i:=0) (show ((["name"]:List Str)++([]:List Str)).Nodup by decide +kernel) rfl (GN rfl) (hf:=G6 rfl))) (fun _ _ _ _=>dI) (fun _ _ _ _=>(aV (aa (pv 0) (aa (aV (aa ah (aa ah ae))) ae))))) ae)))),?_⟩
  refine⟨_,rfl,plv,ps,xs,m,rfl,hp,pok,hx,hal,fun nt ss H1 hnt hperm hsort hsl s1=>?_⟩
  refine⟨nt,rfl,⟨_,av.of hnt⟩,fun acc na=>?_⟩
  refine jd (K:=K) (a:=nt) (xs:=ss.map V.str) (fun i zs GL H'=>∃c:Option V,GL=[c]/\aX H' zs ((ss.take i).map fun x=>.tuple [.str x,.tuple [.int 0,.int 0]])/\H' acc=some (.lst zs)/\ao H1 H') ?_ ?_ ?_ ?_
  ·exact⟨none,rfl,.nil,af,ao.new na⟩
  ·rintro i zs GL H2 hi ⟨c,rfl,r,ha,s2⟩
   refine⟨av.of (s2 _ _ hnt),ha,?_⟩
   have h1:=r.len
   rw [GO,Hm] at h1
   exact bE (by omega)
  ·rintro i x zs GL H2 hi ⟨c,rfl,r,ha,s2⟩
   obtain⟨y,hy,rfl⟩:∃y,ss[i]?=some y/\x=V.str y:=by
    rw [G8] at hi
    cases e:ss[i]? with
    | none=>rw [e] at hi;cases hi
    | some k=>rw [e] at hi;exact⟨k,rfl,(G5.inj hi).symm⟩
   refine cY ?_
   refine gK ?_
   refine bL ?_
   refine⟨_,rfl,ln2,fun t1 n1=>⟨ln2,fun t2 n2=>?_⟩⟩
   have q1:=ao.new (o:=.tup [.int 0,.int 0]) n1
   have q2:=ao.new (o:=.tup [.str y,.ref t1]) n2
   have ha3:=q2 _ _ (q1 _ _ ha)
   have kt:∀p ws,(upd (upd H2 t1 (.tup [.int 0,.int 0])) t2 (.tup [.str y,.ref t1])) p=some (.tup ws)->(upd (upd (upd H2 t1 (.tup [.int 0,.int 0])) t2 (.tup [.str y,.ref t1])) acc (.lst (zs++[V.ref t2]))) p=some (.tup ws):=fun p ws e=>by rw [au (bN e ha3 (by intro z;cases z))];exact e
   refine⟨ha3,_,rfl,?_,af,((s2.trans q1).trans q2).put na⟩
   rw [Hi,hy,G3]
   exact (((r.same q1 (gC _)).same q2 (gC _)).aK kt (gC _)).app (.tup (kt _ _ af) (.cons (.str _) (.cons (.tup (kt _ _ (q2 _ _ af)) (.cons (.int _) (.cons (.int _) .nil))) .nil)))
  ·rintro zs GL H2 ⟨c,rfl,r,ha,s2⟩
   rw [GO,Hr] at r
   refine⟨acc,_,rfl,.inl ⟨aU.of ha,fun t ht=>?_⟩⟩
   exact q (.ref t) ss _ (.tup af (r.same (ao.new ht) (gC _))) hperm hsort ((s1.trans s2).trans (ao.new ht))
theorem qB {f:Addr} {fd:FuncData} (F:b0 K "__init__" "Row.__init__" ie f fd) (Z:Bl mg) {C:Addr} (T:uT K C)  : bp P w K mg base bT 1 f fd ["self", "first"] (p9 P w C):=by
 refine F.ok (k:=0) qw (fun vs H Q E h=>?_) (fun cdv A outer s H vs Q E hr h=>?_)
 ·obtain⟨r,dx,k,d0,rfl,_⟩:=h
  rfl
 ·obtain⟨r,dx,k,d0,rfl,hr0,hk,rd,nl,q⟩:=h
  refine⟨_,(ai (yJ (pv 0) (cX (aa (pv 1) ae)) rfl)
   (ar (yJ (pv 0) (Bs (uX hr) (AI (pv 1) ah CY) rfl rfl (List.cons_ne_nil _ _) (by show 1<=15;decide)) rfl))),?_⟩
  refine⟨_,rfl,nS,fun m nm=>?_⟩
  have s1:=ao.new (o:=.lst [.ref k]) nm
  have hm1:(upd H m (.lst [.ref k])) m=some (.lst [.ref k]):=af
  have nrm:r≠m:=aG hr0 nm
  have rd1:=rd.same s1 nl
  generalize (upd H m (.lst [.ref k]))=H1 at s1 hm1 rd1
  have hr1:=s1 _ _ hr0
  refine⟨_,rfl,r,C,dx,_,rfl,hr1,T.cl,T.members,(by show 0<1000;decide),?_⟩
  have kt1:∀p zs,H1 p=some (.tup zs)->∀o,(upd H1 r o) p=some (.tup zs):=fun p zs e o=>by rw [au (bN e hr1 (by intro z;cases z))];exact e
  refine fun d nd=>?_
  have ndr:r≠d:=fun z=>by rw [<-z,af] at nd;cases nd
  have nd1:H1 d=none:=by rw [au ndr.symm] at nd;exact nd
  have ndm:d≠m:=fun z=>by rw [z,hm1] at nd1;cases nd1
  have kt2:∀p zs,H1 p=some (.tup zs)->∀o o',(upd (upd H1 r o) d o') p=some (.tup zs):=fun p zs e o o'=>by rw [au (aG e nd1)];exact kt1 p zs e o
  refine⟨_,rfl,af,k,.int 0,d0,rfl,hk,rd1.aK (fun p zs e=>kt2 p zs e _ _) nl,?_⟩
  refine⟨_,rfl,r,C,dx,_,rfl,(by rw [au ndr,au ndr,af]),T.cl,T.places,(by rw [p8];show 1<1000;decide),?_⟩
  refine q m d _ ⟨⟨dx,by rw [af,p8,zD]⟩,?_,?_,fun p hp=>?_⟩ (fun c o e n=>?_) nm (s1.free nd1)
  ·rw [au nrm.symm,au ndm.symm,au ndm.symm,au nrm.symm];exact hm1
  ·rw [au ndr.symm,af];rfl
  ·rw [GR.mp hp]
   refine⟨hk,rd1.aK (fun p zs e=>?_) nl⟩
   have hpr:p≠r:=bN e hr1 (by intro z;cases z)
   have hpd:p≠d:=aG e nd1
   rw [au hpr,au hpd,au hpd,au hpr];exact e
  ·rw [au n,au (aG (s1 _ _ e) nd1),au (aG (s1 _ _ e) nd1),au n];exact s1 _ _ e
theorem qC {f:Addr} {fd:FuncData} (F:b0 K "place_of" "Row.place_of" ig f fd) (Z:Bl mg) {C:Addr} (T:uT K C)  : bp P w K mg base bT 1 f fd ["self", "thing"] (qd P w C):=by
  refine F.ok (k:=0) qx (fun vs H Q E h=>?_) (fun cdv A outer s H vs Q E hr h=>?_)
  . obtain⟨r,m,d,k,d0,ms,rfl,_⟩:=h
    rfl
  . obtain⟨r,m,d,k,d0,ms,rfl,A,hms,hk,rd,nl,nls,q⟩:=h
    refine⟨_,(ai (aZ (aF (yc (uX hr)) (pv 1) (gI (pv 0) rfl) (by with_unfolding_all rfl))
      (ai (cN (aQ aO rfl Z.len bJ (aa (gI (pv 0) rfl) ae)) (gG (gI (pv 0) rfl) (pv 1) (Bj (uX hr))))
      (ar (dH (fU PySem.F.plainAttrs_list PySem.F.slot_list_append PySem.F.type_list_append fi (gI (pv 0) rfl) (aa (pv 1) ae)))))
      aP)
      (ar (aH (C8 (uX hr) (gI (pv 0) rfl) (pv 1) (fun _ _=>rfl))))),?_⟩
    obtain⟨dx,hob⟩:=A.ob
    obtain⟨n1,n2,n3⟩:=A.GH
    have hml:(ms.map fun p=>V.ref p.2).length=ms.length:=GO ..
    have hv:=kK d0 0 ms
    refine⟨_,rfl,_,rfl,r,C,dx,_,_,rfl,hob,T.cl,T.places,iC,k,d,d0,dE 0 ms,rfl,rfl,⟨A.mL,A.jX,hk,rd⟩,_,rfl,?_⟩
    by_cases hm:d0∈ms.map (·.1)
    . rw [if_pos hm] at hv
      refine bc (by rw [hv];rfl) ?_
      have e:kL ms d0 k=ms:=by unfold kL;rw [if_pos hm]
      rw [e] at q
      refine⟨_,rfl,r,C,dx,_,_,rfl,hob,T.cl,T.places,iC,_,rfl,k,d,d0,dE 0 ms,_,rfl,rfl,⟨A.mL,A.jX,hk,rd⟩,hv,?_⟩
      rw [Nat.zero_add]
      exact q H A kJ.refl
    . rw [if_neg hm] at hv
      refine cu (by rw [hv];rfl) ?_
      refine⟨_,rfl,r,C,dx,_,_,rfl,hob,T.cl,T.members,gO,m,_,rfl,.inl (aU.of A.mem),_,rfl,r,C,dx,_,_,rfl,hob,T.cl,T.places,iC,_,rfl,k,d,d0,dE 0 ms,rfl,rfl,⟨A.mL,A.jX,hk,rd⟩,bE (by rw [oU];omega),?_⟩
      have eput:putD (dE 0 ms) d0 k (.int ((ms.map fun p=>V.ref p.2).length:Nat))=dE 0 (ms++[(d0,k)]):=by
        unfold putD
        rw [hv,uY,hml,Nat.zero_add]
        rfl
      rw [eput]
      change (_:Hp->Prop) (upd H d (fo P w d (dE 0 (ms++[(d0,k)]))))
      have hob1:(upd H d (fo P w d (dE 0 (ms++[(d0,k)])))) r=some (.ins C dx (rh (.ref m) (.ref d))):=by rw [au n2];exact hob
      have hm1:(upd H d (fo P w d (dE 0 (ms++[(d0,k)])))) m=some (.lst (ms.map fun p=>V.ref p.2)):=by rw [au n3.symm];exact A.mem
      refine⟨_,rfl,r,C,dx,_,_,rfl,hob1,T.cl,T.members,gO,.inl ⟨rfl,_,aU.of hm1⟩,_,rfl,m,_,_,rfl,rfl,hm1,bE (by omega),?_⟩
      have e:kL ms d0 k=ms++[(d0,k)]:=by unfold kL;rw [if_neg hm]
      rw [e] at q
      have kt:∀p zs,H p=some (.tup zs)->∀o o',(upd (upd H d o) m o') p=some (.tup zs):=fun p zs h o o'=>by
        rw [au (bN h A.mem (by intro z;cases z)),au (bN h A.mL (by intro z;cases z))];exact h
      have keys:∀(H':Hp),(∀p zs,H p=some (.tup zs)->H' p=some (.tup zs))->∀p∈ms++[(d0,k)],gN p.1/\aY H' (.ref p.2) p.1:=fun H' kt' p hp=>by
        rcases Hd.mp hp with hp | hp
        . exact⟨(A.keys p hp).1,(A.keys p hp).2.aK kt' (nls p hp)⟩
        . rw [GR.mp hp];exact⟨hk,rd.aK kt' nl⟩
      have A2:gR P w C (upd (upd H d (fo P w d (dE 0 (ms++[(d0,k)])))) m (.lst ((ms.map fun p=>V.ref p.2)++[.ref k]))) r m d (ms++[(d0,k)]) :=
        ⟨⟨dx,by rw [au n1];exact hob1⟩,by rw [af,G3];rfl,by rw [au n3,af],keys _ fun p zs h=>kt p zs h _ _⟩
      have hv2:=kK d0 0 (ms++[(d0,k)])
      rw [if_pos (by rw [G3];exact Hn _ (GR.mpr rfl)),Nat.zero_add] at hv2
      obtain⟨dx2,hob2⟩:=A2.ob
      refine⟨_,rfl,r,C,dx2,_,_,rfl,hob2,T.cl,T.places,iC,_,rfl,k,d,d0,_,_,rfl,rfl,⟨A2.mL,A2.jX,hk,(A2.keys (d0,k) (Hn _ (GR.mpr rfl))).2⟩,hv2,?_⟩
      exact q _ A2 fun c o h c1 c2=>by rw [au c1,au c2];exact h
theorem yt {f:Addr} {fd:FuncData} (F:b0 K "reached" "reached" mY f fd) (Z:Bl mg) (O_ways_on:Own P w K mg base "ways_on" 3 ["end"] jg):bp P w K mg base bT 4 f fd ["plan"] sT:=by
  refine b0.GG F (k:=3) gW (fun vs H Q E h=>?_) (fun cdv A outer s H vs Q E hcd hr h=>?_)
  . obtain⟨plv,ps,rfl,_⟩:=h
    rfl
  . obtain⟨plv,ps,rfl,hp,hin,hn0,hn,q⟩:=h
    refine⟨_,(ai (aL (i:=1) gW.nd rfl (GN rfl) (Dj hcd ah))
      (ai (aL (i:=2) gW.nd rfl (GN rfl) (cX (aa ah ae)))
      (ai (uf PassesOwn.never (Ap (pv 2) (fun _=>rfl))
      (ai (aL (i:=3) gW.nd rfl (GN rfl) (DX PySem.F.plainAttrs_list PySem.F.slot_list_pop PySem.F.type_list_pop DY (pv 2)))
      (ar (eM PassesOwn.never rfl (eI (aw O_ways_on (hr.mono (by decide)) rfl (aa (aI aN (aI aN (pv 0) (pv 3) (fun _ _=>rfl)) ah (fun _ _=>rfl)) ae))) (aB (i:=4) gW.nd rfl (GN rfl))
      (ar (aZ (aF zv (pv 4) (pv 1) (by with_unfolding_all rfl))
      (ai (dH (zw PySem.F.slot_set_add PySem.F.type_set_add wR (pv 1) (aa (pv 4) ae)))
      (ar (dH (fU PySem.F.plainAttrs_list PySem.F.slot_list_append PySem.F.type_list_append fi (pv 2) (aa (pv 4) ae)))))
      aP))))))
      (ar (aH (br bF rfl Z.tuple cI (aa (aQ (lF rfl) rfl Z.sorted gy (aa (pv 1) ae)) ae))))))),?_⟩
    obtain⟨pp,vs,rfl,e1,r1⟩:=aY.bZ hp
    have hvl:=r1.len
    rw [GO] at hvl
    refine fun fs nfs=>?_
    refine⟨af,Sum.inl (0:Int),rfl,?_⟩
    change (_:Hp->Prop) (upd (upd H fs (cO P w fs [])) fs (cO P w fs [Sum.inl (0:Int)]))
    rw [Cy]
    have s1:=ao.new (o:=cO P w fs [Sum.inl (0:Int)]) nfs
    have hf1:(upd H fs (cO P w fs [Sum.inl (0:Int)])) fs=some (cO P w fs (kI [0])):=af
    generalize (upd H fs (cO P w fs [Sum.inl (0:Int)]))=H1 at s1 hf1
    refine⟨nS,fun wl nwl=>?_⟩
    have s2:=ao.new (o:=.lst [.int 0]) nwl
    have hf2:=s2 _ _ hf1
    have hw2:(upd H1 wl (.lst [.int 0])) wl=some (.lst (vN [0])):=af
    have nfw:fs≠wl:=aG hf1 nwl
    have nwH:H wl=none:=s1.free nwl
    have s12:=s1.trans s2
    generalize (upd H1 wl (.lst [.int 0]))=H2 at s2 hf2 hw2 s12
    refine⟨fun m GK H'=>∃(ks ws:List Nat) (u1 u2:Option V),GK=[some (.ref pp),some (.ref fs),some (.ref wl),u1,u2]/\H' fs=some (cO P w fs (kI ks))/\H' wl=some (.lst (vN ws))/\ye ps ks ws/\m=2*(ps.length-ks.length)+ws.length/\ws.length<=ks.length/\ao H H',⟨_,[0],[0],_,_,rfl,hf2,hw2,⟨by simp,fun k hk=>by rw [GR.mp hk];exact hn0,fun k hk=>by rw [GR.mp hk];exact .zero,by simp,fun k hk=>hk,fun k hk=>.inl hk⟩,rfl,GQ _,s12⟩,?_⟩
    rintro m GK H3 ⟨ks,ws,u1,u2,rfl,hf3,hw3,sk,hm,hwk,s3⟩
    have hkn:=gB sk.nd sk.lt
    refine⟨_,rfl,!(vN ws).isEmpty,.inl ⟨_,aU.of hw3,rfl⟩,?_⟩
    rcases (show ws=[]\/∃ws' at_,ws=ws' ++ [at_] from (List.eq_nil_or_concat ws).imp id fun ⟨a,b,h⟩=>⟨a,b,by rw [h,List.concat_eq_append]⟩) with rfl | ⟨ws',at_,rfl⟩
    . refine bc rfl ?_
      refine⟨_,rfl,fs,ks.map (fun k:Nat=>(k:Int)),rfl,(by rw [hf3,w5];rfl),(by rw [GO];omega),fun l ss hperm _ nl=>?_⟩
      obtain⟨ms,rfl,hms⟩:=mN hperm
      refine⟨l,_,rfl,.inl ⟨aU.of af,?_⟩⟩
      rw [<-zF]
      intro t nt
      refine q t ms _ af (fun k=>(hms.mem_iff).trans (sk.all k)) (fun k hk=>sk.lt k (hms.mem_iff.mp hk)) (by rw [hms.length_eq];omega) ((s3.trans (ao.new nl)).trans (ao.new nt))
    . have hwl:(ws' ++ [at_]).length=ws'.length+1:=by rw [GW];rfl
      have hev:vN (ws' ++ [at_])=vN ws' ++ [V.int (at_:Nat)]:=by show (ws' ++ [at_]).map _=_;rw [G3];rfl
      refine cu (by rw [hev];cases vN ws' <;> rfl) ?_
      have hak:at_∈ks:=sk.sub at_ (Hn _ (GR.mpr rfl))
      have hat:=sk.lt at_ hak
      have hps:ps[at_]?=some ps[at_]:=by simp [hat]
      generalize ps[at_]=pce at hps
      obtain⟨ds,e⟩:=pce
      obtain⟨p',xs',pc,da,ea,wsv,ep,e1',el',hx',e2,e3,r3,e4⟩:=fK hp hps
      cases ep
      rw [e1] at e1'
      cases e1'
      refine⟨fun σ' H'=>∃(ks' ws2:List Nat) (u1 u2:Option V),σ' = [some (.ref pp),some (.ref fs),some (.ref wl),u1,u2]/\H' fs=some (cO P w fs (kI ks'))/\H' wl=some (.lst (vN ws2))/\ye ps ks' ws2/\2*(ps.length-ks'.length)+ws2.length<m/\ws2.length<=ks'.length/\ao H H',fun σ' H' ⟨ks',ws2,u1,u2,h1,h2,h3,h4,h5,h6,h7⟩=>⟨_,h5,ks',ws2,u1,u2,h1,h2,h3,h4,rfl,h6,h7⟩,?_⟩
      refine⟨_,rfl,.inl ⟨rfl,_,aU.of hw3⟩,wl,_,.int (at_:Nat),rfl,rfl,hw3,(by rw [hev];simp),?_⟩
      have hdl:(vN (ws' ++ [at_])).dropLast=vN ws':=by rw [hev,List.dropLast_concat]
      rw [hdl]
      have hw4:(upd H3 wl (.lst (vN ws'))) wl=some (.lst (vN ws')):=af
      have hf4:(upd H3 wl (.lst (vN ws'))) fs=some (cO P w fs (kI ks)):=by rw [au nfw];exact hf3
      have s4:ao H (upd H3 wl (.lst (vN ws'))):=s3.put nwH
      generalize (upd H3 wl (.lst (vN ws')))=H4 at hw4 hf4 s4
      refine⟨_,rfl,_,rfl,pp,_,_,_,rfl,rfl,av.of (s4 _ _ e1),bA hx',pc,_,1,_,rfl,rfl,av.of (s4 _ _ e2),cR,ea,e,rfl,s4 _ _ e4,fun wt H5 hwt s5=>?_⟩
      refine⟨wt,rfl,⟨_,av.of hwt⟩,gY (K:=K) (a:=wt) (xs:=vN (aR e)) (fun i GK H'=>∃(ks' add:List Nat) (u2:Option V),GK=[some (.ref pp),some (.ref fs),some (.ref wl),some (.int (at_:Nat)),u2]/\H' fs=some (cO P w fs (kI ks'))/\H' wl=some (.lst (vN (ws' ++ add)))/\ks' = ks++add/\ks'.Nodup/\(∀k∈ks',k<ps.length)/\(∀k∈add,mM ps k)/\(∀k∈(aR e).take i,k∈ks')/\(∀c o,H5 c=some o->c≠fs->c≠wl->H' c=some o)) ?_ ?_ ?_ ?_⟩
      . exact⟨ks,[],_,rfl,s5 _ _ hf4,by rw [Im];exact s5 _ _ hw4,by rw [Im],sk.nd,sk.lt,(fun _ h=>nomatch h),(fun _ h=>by simp at h),fun c o h _ _=>h⟩
      . rintro i GK H6 hi ⟨ks',add,u2,rfl,h1,h2,rfl,h4,h5,h6,h7,h8⟩
        exact av.of (h8 _ _ hwt (bN hwt (s5 _ _ hf4) (by intro z;cases z)) (bN hwt (s5 _ _ hw4) (by intro z;cases z)))
      . rintro i y GK H6 hi ⟨ks',add,u2,rfl,h1,h2,rfl,h4,h5,h6,h7,h8⟩
        obtain⟨k0,hk0,rfl⟩:∃k,(aR e)[i]?=some k/\y=V.int (k:Nat):=by
          rw [G8] at hi
          cases z:(aR e)[i]? with
          | none=>rw [z] at hi;cases hi
          | some k=>rw [z] at hi;exact⟨k,rfl,(G5.inj hi).symm⟩
        have hk0m:=G9 hk0
        have hk0b:=rC hin hps k0 hk0m
        have htk:(aR e).take (i+1)=(aR e).take i++[k0]:=by rw [Hi,hk0];rfl
        refine cY ?_
        refine⟨_,rfl,_,rfl,fs,_,Sum.inl (k0:Int),rfl,h1,rfl,fun b hb=>⟨_,rfl,?_⟩⟩
        rw [u9] at hb
        by_cases hm0:k0∈ks++add
        . refine bc (by rw [hb.mpr hm0];rfl) ?_
          refine⟨ks++add,add,_,rfl,h1,h2,rfl,h4,h5,h6,fun k hk=>?_,h8⟩
          rw [htk] at hk
          rcases Hd.mp hk with hk | hk
          . exact h7 k hk
          . rw [GR.mp hk];exact hm0
        . refine cu (by rw [Jj.mpr fun z=>hm0 (hb.mp z)];rfl) ?_
          have hfew:=gB h4 h5
          refine⟨_,rfl,⟨fs,_,rfl,h1⟩,_,rfl,fs,_,Sum.inl (k0:Int),rfl,rfl,h1,(by rw [GO];exact Iq (show (ks++add).length+1<=1002 by omega) (by decide)),?_⟩
          rw [zO,show LS.putIn (ks++add) k0=ks++(add++[k0]) by unfold LS.putIn;rw [if_neg hm0,HB]]
          change (_:Hp->Prop) (upd H6 fs (cO P w fs (kI (ks++(add++[k0])))))
          have h27:(upd H6 fs (cO P w fs (kI (ks++(add++[k0]))))) wl=some (.lst (vN (ws' ++ add))):=by rw [au nfw.symm];exact h2
          have hal:(ws' ++ add).length<=200:=by
            rw [GW] at hfew ⊢
            omega
          refine⟨_,rfl,.inl ⟨rfl,_,aU.of h27⟩,_,rfl,wl,_,_,rfl,rfl,h27,bE (by rw [GO];omega),?_⟩
          refine⟨_,add++[k0],_,rfl,by rw [au nfw,af],?_,rfl,?_,?_,?_,?_,fun c o h c1 c2=>by rw [au c2,au c1];exact h8 c o h c1 c2⟩
          . rw [af]
            show _=some (HO.lst ((ws' ++ (add++[k0])).map _))
            rw [<-HB,G3]
            rfl
          . rw [<-HB,Ij]
            refine⟨h4,by simp,fun x hx y hy z=>?_⟩
            rw [GR.mp hy] at z
            exact hm0 (z ▸ hx)
          . intro k hk
            rw [<-HB] at hk
            rcases Hd.mp hk with hk | hk
            . exact h5 k hk
            . rw [GR.mp hk];exact hk0b
          . intro k hk
            rcases Hd.mp hk with hk | hk
            . exact h6 k hk
            . rw [GR.mp hk];exact .step (sk.EH at_ hak) hps hk0m
          . intro k hk
            rw [htk] at hk
            rw [<-HB]
            rcases Hd.mp hk with hk | hk
            . exact Hv _ (h7 k hk)
            . exact Hn _ hk
      . rintro GK H6 ⟨ks',add,u2,rfl,h1,h2,rfl,h4,h5,h6,h7,h8⟩
        rw [show (vN (aR e)).length=(aR e).length from GO ..,Hr] at h7
        have hfew:=gB h4 h5
        refine⟨ks++add,ws' ++ add,_,_,rfl,h1,h2,⟨h4,h5,fun k hk=>?_,Hv _ sk.zero,fun k hk=>?_,fun k hk=>?_⟩,?_,?_,fun c o h=>?_⟩
        . rcases Hd.mp hk with hk | hk
          . exact sk.EH k hk
          . exact h6 k hk
        . rcases Hd.mp hk with hk | hk
          . exact Hv _ (sk.sub k (Hv _ hk))
          . exact Hn _ hk
        . rcases Hd.mp hk with hk | hk
          . by_cases hka:k=at_
            . subst hka
              refine .inr fun ds' e' he' j hj=>?_
              rw [hps] at he'
              cases he'
              exact h7 j hj
            . rcases sk.done k hk with hw | hd
              . rcases Hd.mp hw with hw | hw
                . exact .inl (Hv _ hw)
                . exact absurd (GR.mp hw) hka
              . exact .inr fun ds' e' he' j hj=>Hv _ (hd ds' e' he' j hj)
          . exact .inl (Hn _ hk)
        . rw [GW] at hfew ⊢
          rw [GW] at ⊢
          rw [hwl] at hm
          omega
        . rw [GW,GW]
          omega
        . exact h8 c o (s5 _ _ (s4 _ _ h)) (aG h nfs) (aG h nwH)
theorem BR {f:Addr} {fd:FuncData} (F:b0 K "heads" "heads" rN f fd) (Z:Bl mg) (O_reached:Own P w K mg base "reached" 4 ["plan"] sT) (O_ways_on:Own P w K mg base "ways_on" 3 ["end"] jg):bp P w K mg base bT 5 f fd ["plan"] w6:=by
  refine F.ok (k:=4) kW (fun vs H Q E h=>?_) (fun cdv A outer s H vs Q E hr h=>?_)
  . obtain⟨plv,ps,rfl,_⟩:=h
    rfl
  . obtain⟨plv,ps,rfl,hp,hin,hn0,hn,q⟩:=h
    refine⟨_,(ai (aL (i:=1) kW.nd rfl (GN rfl) (xF zt rfl Z.set zr))
      (ai (eM PassesOwn.never rfl (eI (aw O_reached (hr.mono (by decide)) rfl (aa (pv 0) ae))) (aB (i:=2) kW.nd rfl (GN rfl))
      (ar (eM PassesOwn.never rfl (eI (aw O_ways_on (hr.mono (by decide)) rfl (aa (aI aN (aI aN (pv 0) (pv 2) (fun _ _=>rfl)) ah (fun _ _=>rfl)) ae))) (aB (i:=3) kW.nd rfl (GN rfl))
      (ar (aZ (aF m9 (pv 3) (pv 2) (aJ _))
      (ar (dH (zw PySem.F.slot_set_add PySem.F.type_set_add wR (pv 1) (aa (pv 3) ae))))
      aP)))))
      (ar (aH (br bF rfl Z.tuple cI (aa (aQ (lF rfl) rfl Z.sorted gy (aa (pv 1) ae)) ae)))))),?_⟩
    obtain⟨pp,vs,rfl,e1,r1⟩:=aY.bZ hp
    have hvl:=r1.len
    rw [GO] at hvl
    refine⟨rfl,fun fs nfs=>?_⟩
    change (_:Hp->Prop) (upd H fs (cO P w fs []))
    have s1:=ao.new (o:=cO P w fs []) nfs
    have hf1:(upd H fs (cO P w fs [])) fs=some (cO P w fs (kI [])):=af
    generalize (upd H fs (cO P w fs []))=H1 at s1 hf1
    refine⟨_,rfl,_,ps,rfl,hp.same s1 (bR ps),hin,hn0,hn,fun t ks H2 ht hks hlt hkl s2=>?_⟩
    have hf2:=s2 _ _ hf1
    have s12:=s1.trans s2
    refine⟨t,rfl,⟨_,av.of ht⟩,gY (K:=K) (a:=t) (xs:=vN ks) (fun i GK H'=>∃(hs:List Nat) (u1 u2:Option V),GK=[some (.ref pp),some (.ref fs),u1,u2]/\H' fs=some (cO P w fs (kI hs))/\hs.Nodup/\(∀k∈hs,k<ps.length)/\(∀k,k∈hs↔∃j∈ks.take i,∃ds e,ps[j]?=some (ds,e)/\k∈aR e/\k<=j)/\(∀c o,H2 c=some o->c≠fs->H' c=some o)) ?_ ?_ ?_ ?_⟩
    . exact⟨[],_,_,rfl,hf2,Iy,(fun _ h=>nomatch h),fun k=>⟨fun h=>(nomatch h),fun ⟨j,hj,_⟩=>(by simp at hj)⟩,fun c o h _=>h⟩
    . rintro i GK H3 hi ⟨hs,u1,u2,rfl,h1,h2,h3,h4,h5⟩
      exact av.of (h5 _ _ ht (bN ht hf2 (by intro z;cases z)))
    . rintro i y GK H3 hi ⟨hs,u1,u2,rfl,h1,h2,h3,h4,h5⟩
      obtain⟨at_,hat,rfl⟩:∃k,ks[i]?=some k/\y=V.int (k:Nat):=by
        rw [G8] at hi
        cases z:ks[i]? with
        | none=>rw [z] at hi;cases hi
        | some k=>rw [z] at hi;exact⟨k,rfl,(G5.inj hi).symm⟩
      have hatl:=hlt at_ (G9 hat)
      have hps:ps[at_]?=some ps[at_]:=by simp [hatl]
      generalize ps[at_]=pce at hps
      obtain⟨ds,e⟩:=pce
      obtain⟨p',xs',pc,da,ea,wsv,ep,e1',el',hx',e2,e3,r3,e4⟩:=fK hp hps
      cases ep
      rw [e1] at e1'
      cases e1'
      have k3:∀p zs,H p=some (.tup zs)->H3 p=some (.tup zs):=fun p zs h=>h5 _ _ (s12 _ _ h) (bN (s12 _ _ h) hf2 (by intro z;cases z))
      refine cY ?_
      refine⟨_,rfl,_,rfl,pp,_,_,_,rfl,rfl,av.of (k3 _ _ e1),bA hx',pc,_,1,_,rfl,rfl,av.of (k3 _ _ e2),cR,ea,e,rfl,k3 _ _ e4,fun wt H5 hwt s5=>?_⟩
      refine⟨wt,rfl,⟨_,av.of hwt⟩,gY (K:=K) (a:=wt) (xs:=vN (aR e)) (fun j GK H'=>∃(hs':List Nat) (u2:Option V),GK=[some (.ref pp),some (.ref fs),some (.int (at_:Nat)),u2]/\H' fs=some (cO P w fs (kI hs'))/\hs'.Nodup/\(∀k∈hs',k<ps.length)/\(∀k,k∈hs'↔k∈hs\/(k∈(aR e).take j/\k<=at_))/\(∀c o,H5 c=some o->c≠fs->H' c=some o)) ?_ ?_ ?_ ?_⟩
      . exact⟨hs,_,rfl,s5 _ _ h1,h2,h3,fun k=>⟨.inl,fun h=>h.elim id fun ⟨z,_⟩=>by simp at z⟩,fun c o h _=>h⟩
      . rintro j GK H6 hj ⟨hs',u2,rfl,g1,g2,g3,g4,g5⟩
        exact av.of (g5 _ _ hwt (bN hwt (s5 _ _ h1) (by intro z;cases z)))
      . rintro j y GK H6 hj ⟨hs',u2,rfl,g1,g2,g3,g4,g5⟩
        obtain⟨k0,hk0,rfl⟩:∃k,(aR e)[j]?=some k/\y=V.int (k:Nat):=by
          rw [G8] at hj
          cases z:(aR e)[j]? with
          | none=>rw [z] at hj;cases hj
          | some k=>rw [z] at hj;exact⟨k,rfl,(G5.inj hj).symm⟩
        have hk0m:=G9 hk0
        have hk0b:=rC hin hps k0 hk0m
        have htk:(aR e).take (j+1)=(aR e).take j++[k0]:=by rw [Hi,hk0];rfl
        refine cY ?_
        refine⟨_,rfl,_,rfl,_,_,rfl,rfl,_,rfl,?_⟩
        refine cB (fun hc=>?_) (fun hc=>?_)
        . have hle:k0<=at_:=by have:=of_decide_eq_true hc;omega
          have hfew:=gB g2 g3
          refine⟨_,rfl,⟨fs,_,rfl,g1⟩,_,rfl,fs,_,Sum.inl (k0:Int),rfl,rfl,g1,(by rw [GO];exact Iq (show hs'.length+1<=1002 by omega) (by decide)),?_⟩
          rw [zO]
          change (_:Hp->Prop) (upd H6 fs (cO P w fs (kI (LS.putIn hs' k0))))
          refine⟨LS.putIn hs' k0,_,rfl,af,Bn g2,fun k hk=>?_,fun k=>?_,fun c o h c1=>by rw [au c1];exact g5 c o h c1⟩
          . rcases LS.iB.mp hk with hk | hk
            . exact g3 k hk
            . rw [hk];exact hk0b
          . rw [LS.iB,g4,htk]
            constructor
            . rintro ((h | ⟨h,h'⟩) | rfl)
              . exact .inl h
              . exact .inr ⟨Hv _ h,h'⟩
              . exact .inr ⟨Hn _ (GR.mpr rfl),hle⟩
            . rintro (h | ⟨h,h'⟩)
              . exact .inl (.inl h)
              . rcases Hd.mp h with h | h
                . exact .inl (.inr ⟨h,h'⟩)
                . exact .inr (GR.mp h)
        . have hle:¬k0<=at_:=fun z=>hc (decide_eq_true (by omega))
          refine⟨hs',_,rfl,g1,g2,g3,fun k=>?_,g5⟩
          rw [g4,htk]
          constructor
          . rintro (h | ⟨h,h'⟩)
            . exact .inl h
            . exact .inr ⟨Hv _ h,h'⟩
          . rintro (h | ⟨h,h'⟩)
            . exact .inl h
            . rcases Hd.mp h with h | h
              . exact .inr ⟨h,h'⟩
              . rw [GR.mp h] at h';exact absurd h' hle
      . rintro GK H6 ⟨hs',u2,rfl,g1,g2,g3,g4,g5⟩
        rw [show (vN (aR e)).length=(aR e).length from GO ..,Hr] at g4
        refine⟨hs',_,_,rfl,g1,g2,g3,fun k=>?_,fun c o h c1=>g5 c o (s5 _ _ (h5 c o h c1)) c1⟩
        rw [g4,h4,Hi,hat]
        constructor
        . rintro (⟨j,hj,r⟩ | ⟨h,h'⟩)
          . exact⟨j,Hv _ hj,r⟩
          . exact⟨at_,Hn _ (GR.mpr rfl),ds,e,hps,h,h'⟩
        . rintro⟨j,hj,ds',e',hp',h,h'⟩
          rcases Hd.mp hj with hj | hj
          . exact .inl ⟨j,hj,ds',e',hp',h,h'⟩
          . have hj:j=at_:=GR.mp hj
            subst hj
            rw [hps] at hp'
            cases hp'
            exact .inr ⟨h,h'⟩
    . rintro GK H3 ⟨hs,u1,u2,rfl,h1,h2,h3,h4,h5⟩
      rw [show (vN ks).length=ks.length from GO ..,Hr] at h4
      have hfew:=gB h2 h3
      refine⟨_,rfl,fs,hs.map (fun k:Nat=>(k:Int)),rfl,(by rw [h1,w5];rfl),(by rw [GO];omega),fun l ss hperm _ nl=>?_⟩
      obtain⟨ms,rfl,hms⟩:=mN hperm
      refine⟨l,_,rfl,.inl ⟨aU.of af,?_⟩⟩
      rw [<-zF]
      intro t' nt
      have s3:ao H H3:=fun c o h=>h5 c o (s12 c o h) (aG h nfs)
      refine q t' ms _ af (fun k=>(hms.mem_iff).trans ((h4 k).trans ?_)) (by rw [hms.length_eq];omega) ((s3.trans (ao.new nl)).trans (ao.new nt))
      constructor
      . rintro⟨j,hj,ds,e,r1,r2,r3⟩
        exact⟨j,ds,e,(hks j).mp hj,r1,r2,r3⟩
      . rintro⟨j,ds,e,hj,r1,r2,r3⟩
        exact⟨j,(hks j).mpr hj,ds,e,r1,r2,r3⟩
theorem vV {f:Addr} {fd:FuncData} (F:b0 K "copy_for" "copy_for" kX f fd) (Z:Bl mg)  : bp P w K mg base bT 1 f fd ["lead", "tops", "places", "most"] (sV P w):=by
  refine F.ok (k:=0) ow (fun vs H Q E h=>?_) (fun cdv A outer s H vs Q E hr h=>?_)
  . obtain⟨la,tp,d,most,k,T,dl,hs,fv,ms,cs,tops,rfl,_⟩:=h
    rfl
  . obtain⟨la,tp,d,most,k,T,dl,hs,fv,ms,cs,tops,rfl,hla,rl,cd,lay,htp,hts,hd,jX,cc,q⟩:=h
    refine⟨_,(ai (aL (i:=4) ow.nd rfl (GN rfl) (aI aN (pv 0) ah (fun _ _=>rfl)))
      (ai (aZ (aF se (pv 4) (pv 1) (by with_unfolding_all rfl))
      (ar (aH (aV (aa (pv 4) (aa (aV ae) ae)))))
      aP)
      (ai (aZ (PW.pt (m7 (aF (C7 (uX hr)) (pv 0) (pv 2) (by with_unfolding_all rfl)) (j0 (aF gH (aQ yd rfl Z.len bJ (aa (pv 2) ae)) (pv 3) (aJ _)))))
      (ar (aH (pv 0)))
      aP)
      (ar (aH (aV (aa (pv 4) (aa (aV ae) ae)))))))),?_⟩
    refine⟨_,rfl,la,_,0,_,rfl,rfl,av.of hla,bW,?_⟩
    have out:bK tops most cs (k,T)=(k,T0)->∀t1 t2,H t1=none->(upd H t1 (.tup [])) t2=none->Q (.ref t2) (upd (upd H t1 (.tup [])) t2 (.tup [.int (k:Nat),.ref t1])):=fun e t1 t2 n1 n2=>by
      rw [e] at q
      have q2:=ao.new (o:=.tup [.int (k:Nat),.ref t1]) n2
      exact q t2 (.tuple [.int (k:Nat),.tuple []]) _ (.tup af (.cons (.int _) (.cons (.tup (q2 _ _ af) .nil) .nil))) ⟨_,FD.zero,rfl⟩ ((ao.new n1).trans q2)
    refine⟨_,rfl,_,rfl,tp,_,rfl,.inr (av.of htp),rfl,wV _,_,rfl,?_⟩
    rw [show (if false=true then !sd (.int (k:Nat)) (vN hs) else sd (.int (k:Nat)) (vN hs))=decide (k∈hs) from rm k hs]
    by_cases hk:k∈hs
    . refine cu (decide_eq_true hk) ?_
      exact⟨_,rfl,(by show 0<=sizeLine;decide),fun t1 n1=>⟨ln2,fun t2 n2=>out (by unfold bK;rw [if_pos ((hts k).mp hk)]) t1 t2 n1 n2⟩⟩
    . refine bc (decide_eq_false hk) ?_
      have hnt:¬tops k:=fun z=>hk ((hts k).mpr z)
      obtain⟨hmem,_⟩:=cd.mem cc
      have hcl:(ms.map (·.1)).length=cs.length:=Paired.length cc
      have hml:ms.length=cs.length:=by rw [<-hcl,GO]
      have hv:=kK dl 0 ms
      refine⟨_,rfl,_,rfl,la,d,dl,dE 0 ms,rfl,rfl,⟨hd,jX,cd.key lay,rl⟩,_,rfl,?_⟩
      by_cases hin:(k,T)∈cs
      . rw [if_pos (hmem.mpr hin)] at hv
        refine cu (by rw [hv];rfl) (bL ?_)
        exact⟨_,rfl,q la dl H rl (by unfold bK;rw [if_neg hnt,if_pos (.inl hin)];exact cd) (ao.refl H)⟩
      . rw [if_neg (fun z=>hin (hmem.mp z))] at hv
        refine bc (by rw [hv];rfl) ?_
        refine⟨_,rfl,d,dE 0 ms,rfl,hd,_,rfl,_,_,rfl,rfl,_,rfl,?_⟩
        rw [oU]
        refine cB (fun hc=>?_) (fun hc=>?_)
        . have hlt:cs.length<most:=by have:=of_decide_eq_true hc;omega
          exact⟨_,rfl,q la dl H rl (by unfold bK;rw [if_neg hnt,if_pos (.inr hlt)];exact cd) (ao.refl H)⟩
        . have hlt:¬cs.length<most:=fun z=>hc (decide_eq_true (by omega))
          exact⟨_,rfl,(by show 0<=sizeLine;decide),fun t1 n1=>⟨ln2,fun t2 n2=>out (by unfold bK;rw [if_neg hnt,if_neg (fun z=>z.elim hin hlt)]) t1 t2 n1 n2⟩⟩
theorem Ab {f:Addr} {fd:FuncData} (F:b0 K "end_to" "end_to" o4 f fd) (Z:Bl mg) (O_without_ways:Own P w K mg base "without_ways" 4 ["end"] mG):bp P w K mg base bT 5 f fd ["end", "ways"] xa:=by
 refine F.ok (k:=4) z8 (fun vs H Q E h=>?_) (fun cdv A outer s H vs Q E hr h=>?_)
 ·obtain⟨ea,l,e,ns,rfl,_⟩:=h
  rfl
 ·obtain⟨ea,l,e,ns,rfl,he,hl,hns,hn2,q⟩:=h
  refine⟨_,(ai (aZ (aF bw (aQ aO rfl Z.len bJ (aa (pv 1) ae)) ah (aJ _))
   (ar (aH (aV (aa bh (aa (aI bY (pv 1) ah (fun _ _=>rfl)) ae)))))
   aP)
   (ar (aH (ba j7 (aw O_without_ways (hr.mono (by decide)) rfl (aa (pv 0) ae)) (br bF rfl Z.tuple cI (aa (pv 1) ae)))))),?_⟩
  refine⟨_,rfl,l,_,rfl,.inl (aU.of hl),rfl,_,rfl,?_⟩
  have hlen:(vN ns).length=ns.length:=GO ..
  by_cases h1:ns.length=1
  ·obtain⟨a,rfl⟩:∃a,ns=[a]:=List.length_eq_one_iff.mp h1
   refine cu (decide_eq_true rfl) ?_
   exact⟨_,rfl,l,_,0,_,rfl,rfl,aU.of hl,bW,ln2,fun t nt=>q t _ af (ao.new nt)⟩
  ·refine bc (decide_eq_false fun z=>h1 (by have:=V.int.inj z;omega)) ?_
   have hns:=hns.resolve_left h1
   refine⟨_,rfl,ea,e,rfl,he,fun t H1 ht s1=>⟨_,rfl,l,_,rfl,.inl ⟨aU.of (s1 _ _ hl),fun t2 nt2=>?_⟩⟩⟩
   have q2:=ao.new (o:=.tup (vN ns)) nt2
   have hhl:(jD e).length<=3:=by cases e <;> simp [jD]
   refine⟨t,t2,_,_,rfl,rfl,q2 _ _ ht,af,Ht (bE (by omega)),fun t3 H3 ht3 s3=>?_⟩
   refine q t3 H3 ?_ ((s1.trans q2).trans s3)
   have e1:jN e ns=Bk e ns:=by
    match ns,h1 with
    | [],_=>rfl
    | [a],h=>exact absurd rfl h
    | _::_::_,_=>rfl
   rw [e1,Bm hns]
   exact ht3
theorem vW {f:Addr} {fd:FuncData} (F:b0 K "led_past" "led_past" kY f fd) (Z:Bl mg) {tk_MOST_TO_LEAD:Tok} (G_MOST_TO_LEAD:mg "MOST_TO_LEAD" = some (.int 60 tk_MOST_TO_LEAD)) {C:Addr} (T:uT K C) (O_heads:Own P w K mg base "heads" 5 ["plan"] w6) (O_start:Own P w K mg base "start" 4 ["plan"] w4) (O_Row___init__:AM P w K mg base C "Row" 1 ["self", "first"] (p9 P w C)) (O_Row_place_of:AL P w K mg base C "place_of" 1 ["self", "thing"] (qd P w C)) (O_behind:Own P w K mg base "behind" 3 ["facts", "deeds"] oO) (O_leads:Own P w K mg base "leads" 5 ["facts", "end"] (rB aA)) (O_copy_for:Own P w K mg base "copy_for" 1 ["lead", "tops", "places", "most"] (sV P w)) (O_end_to:Own P w K mg base "end_to" 5 ["end", "ways"] xa):bp P w K mg base bT 7 f fd ["plan", "most"] (sY P w C):=by
  refine F.ok (k:=6) dn (fun vs H Q E h=>?_) (fun cdv A outer s H vs Q E hr h=>?_)
  . obtain⟨plv,ps,xs,most,rfl,_⟩:=h
    rfl
  . obtain⟨plv,ps,xs,most,rfl,hp,pok,nok,hx10,hn0,hn,hm1,hm3,q⟩:=h
    refine⟨_,(ai (aZ (aF nc (aQ aO rfl Z.len bJ (aa (pv 0) ae)) (fT (v:=.int 60) rfl G_MOST_TO_LEAD ⟨_,rfl⟩) (aJ _))
      (ar Af)
      aP)
      (ai (aL (i:=2) dn.nd rfl (G6 rfl) (aw O_heads (hr.mono (by decide)) rfl (aa (pv 0) ae)))
      (ai (cS (aL (i:=3) dn.nd rfl (G6 rfl) (C2 O_Row___init__ (hr.mono (by decide)) rfl (aa (aV (aa ah (aa (fJ (aF se ah (pv 2) (by with_unfolding_all rfl)) (aV ae) (aw O_start (hr.mono (by decide)) rfl (aa (pv 0) ae))) ae))) ae))))
      (ai (aL (i:=4) dn.nd rfl (GN rfl) (cX ae))
      (ai (uf PassesOwn.never (aF gH (aQ aO rfl Z.len bJ (aa (pv 4) ae)) (aQ aO rfl Z.len bJ (aa (gI (pv 3) rfl) ae)) (aJ _))
      (ai (cN (aI bY (gI (pv 3) rfl) (aQ aO rfl Z.len bJ (aa (pv 4) ae)) (fun _ _=>rfl)) (cG rfl (aM (aB (i:=5) dn.nd rfl (GN rfl)) (aM (aB (i:=6) dn.nd rfl (GN rfl)) cb))))
      (ai (cN (aI aN (pv 0) (pv 5) (fun _ _=>rfl)) (cG rfl (aM (aB (i:=7) dn.nd rfl (GN rfl)) (aM (aB (i:=8) dn.nd rfl (GN rfl)) cb))))
      (ai (aL (i:=9) dn.nd rfl (GN rfl) (aw O_leads (hr.mono (by decide)) rfl (aa (aw O_behind (hr.mono (by decide)) rfl (aa (pv 6) (aa (pv 7) ae))) (aa (pv 8) ae))))
      (ai (oE (i:=10) ["lead"] ["copies", "tops", "most"] [3,2,1] rfl dn.nd rfl rfl rfl (eI (pv 9)) rfl (by decide +kernel) (by decide +kernel) (by decide +kernel) ⟨⟨rfl,.inl rfl,rfl⟩,⟨⟨rfl,.inl rfl,rfl⟩,⟨⟨rfl,.inl rfl,rfl⟩,True.intro⟩⟩⟩ (fun _ _ _ _=>(aB (i:=0) (show ((["lead"]:List Str)++(["copies", "tops", "most"]:List Str)).Nodup by decide +kernel) rfl (GN rfl) (hf:=G6 rfl))) (fun _ _ _ _=>dI) (fun _ _ _ _=>(C1 O_Row_place_of (pv 1) (hr.mono (by decide)) (aa (aw O_copy_for (hr.mono (by decide)) rfl (aa (pv 0) (aa (pv 2) (aa (Dm (K:=K) rfl (pv 1) rfl) (aa (pv 3) ae))))) ae))))
      (ar (dH (fU PySem.F.plainAttrs_list PySem.F.slot_list_append PySem.F.type_list_append fi (pv 4) (aa (aV (aa (pv 7) (aa (aw O_end_to (hr.mono (by decide)) rfl (aa (pv 8) (aa (pv 10) ae))) ae))) ae)))))))))
      (ar (aH (aV (aa (br bF rfl Z.tuple cI (aa (pv 4) ae)) (aa (br bF rfl Z.tuple cI (aa (gI (pv 3) rfl) ae)) ae)))))))))),?_⟩
    obtain⟨pp,vs,rfl,e1,r1⟩:=aY.bZ hp
    have hvl:=r1.len
    rw [GO] at hvl
    have hin:=pok.uD
    refine⟨_,rfl,pp,_,rfl,.inr (av.of e1),_,_,rfl,rfl,_,rfl,?_⟩
    refine bc (decide_eq_false (by omega)) ?_
    refine⟨_,rfl,_,ps,rfl,hp,hin,hn0,hn,fun tp hs H1 htp hhs hsl s1=>?_⟩
    have hp1:=hp.same s1 (bR ps)
    have hal:(bV ps).length<=4000:=by
      have h1:=Dh pok
      have h2:ps.length*(2*6+1)<=60*13:=Nat.mul_le_mul hn (GQ 13)
      omega
    refine⟨fun σ' H'=>∃(r m d ka:Addr) (d0:PyData),σ' = [some (.ref pp),some (.int (most:Nat)),some (.ref tp),some (.ref r),none,none,none,none,none,none,none]/\gR P w C H' r m d [(d0,ka)]/\CD (gX ps) d0/\H m=none/\H d=none/\H r=none/\ao H1 H',?_,?_⟩
    . have layc:uW (gX ps).2:=by
        unfold gX
        split
        . exact cA.zero.lay nok
        . exact (oV pok).lay nok
      refine⟨_,rfl,tp,_,rfl,.inr (av.of htp),rfl,wV _,_,rfl,?_⟩
      rw [show (if false=true then !sd (.int 0) (vN hs) else sd (.int 0) (vN hs))=decide (0∈hs) from rm 0 hs]
      by_cases h0':0∈hs
      . have h0:=(hhs 0).mp h0'
        refine cu (decide_eq_true h0') ?_
        refine⟨(by show 0<=sizeLine;decide),fun t1 n1=>⟨ln2,fun ka nka=>fun r dx nx ndx nex=>?_⟩⟩
        have cd:=(show CD (gX ps) (.tuple [.int ((0:Nat):Int),.tuple []]) from by unfold gX;rw [if_pos h0];exact⟨_,FD.zero,rfl⟩)
        have nl:=cd.kf
        have q2:=ao.new (o:=.tup [.int 0,.ref t1]) nka
        have s3:=(ao.new (o:=.tup []) n1).trans q2
        have rd3:aY (upd (upd H1 t1 (.tup [])) ka (.tup [.int 0,.ref t1])) (.ref ka) (.tuple [.int ((0:Nat):Int),.tuple []]):=.tup af (.cons (.int _) (.cons (.tup (q2 _ _ af) .nil) .nil))
        generalize (upd (upd H1 t1 (.tup [])) ka (.tup [.int 0,.ref t1]))=H3 at q2 s3 rd3 nx ndx
        have s0:ao H3 (upd (upd H3 dx (.own r)) r (.ins C dx [])):=fun b o e=>by
          rw [au (aG e nx),au (aG e ndx)]
          exact e
        refine⟨r,dx,ka,_,rfl,af,cd.key layc,rd3.same s0 nl,nl,fun m d H4 A4 k4 nm nd=>⟨rfl,?_⟩⟩
        exact⟨r,m,d,ka,_,rfl,A4,cd,s1.free (s3.free (s0.free nm)),s1.free (s3.free (s0.free nd)),s1.free (s3.free nx),fun c o e=>k4 c o (s0 c o (s3 c o e)) (aG (s3 c o e) nx)⟩
      . have h0:¬cZ ps 0:=fun z=>h0' ((hhs 0).mpr z)
        refine bc (decide_eq_false h0') ?_
        refine⟨_,rfl,_,ps,xs,6,rfl,hp1,pok,(by omega),hal,fun v ss H2 rv hperm hsort s3'=>⟨ln2,fun ka nka=>fun r dx nx ndx nex=>?_⟩⟩
        have cd:=(show CD (gX ps) (.tuple [.int ((0:Nat):Int),mK ss]) from by unfold gX;rw [if_neg h0];exact⟨_,Bt hperm hsort,rfl⟩)
        have nl:=cd.kf
        have q2:=ao.new (o:=.tup [.int 0,v]) nka
        have s3:=s3'.trans q2
        have rd3:aY (upd H2 ka (.tup [.int 0,v])) (.ref ka) (.tuple [.int ((0:Nat):Int),mK ss]):=.tup af (.cons (.int _) (.cons (rv.same q2 (gC ss)) .nil))
        generalize (upd H2 ka (.tup [.int 0,v]))=H3 at q2 s3 rd3 nx ndx
        have s0:ao H3 (upd (upd H3 dx (.own r)) r (.ins C dx [])):=fun b o e=>by
          rw [au (aG e nx),au (aG e ndx)]
          exact e
        refine⟨r,dx,ka,_,rfl,af,cd.key layc,rd3.same s0 nl,nl,fun m d H4 A4 k4 nm nd=>⟨rfl,?_⟩⟩
        exact⟨r,m,d,ka,_,rfl,A4,cd,s1.free (s3.free (s0.free nm)),s1.free (s3.free (s0.free nd)),s1.free (s3.free nx),fun c o e=>k4 c o (s0 c o (s3 c o e)) (aG (s3 c o e) nx)⟩
    rintro σ' H2 ⟨r,m,d,ka,d0,rfl,A2,cd0,nm,nd,nr,s2⟩
    have s12:=s1.trans s2
    have htp2:=s2 _ _ htp
    have cc2:n9 [(d0,ka)] [gX ps]:=.cons cd0 .nil
    refine⟨(by show 0<=sizeLine;decide),fun pz npz=>?_⟩
    have npzH:H pz=none:=s12.free npz
    have q3:=ao.new (o:=.lst []) npz
    have s3:=s12.trans q3
    have A3:=A2.mv cc2.kf (fun c o h _=>q3 c o h) (fun p zs h=>q3 _ _ h)
    have htp3:=q3 _ _ htp2
    have hz3:(upd H2 pz (.lst [])) pz=some (.lst []):=af
    have npm:pz≠m:=(aG A2.mem npz).symm
    have npd:pz≠d:=(aG A2.mL npz).symm
    have npr:pz≠r:=by obtain⟨dx,h⟩:=A2.ob;exact (aG h npz).symm
    generalize (upd H2 pz (.lst []))=H3 at q3 s3 A3 hz3 htp3
    have c0ok:(gX ps).1<ps.length/\cA xs (gX ps).2:=by
      unfold gX
      split
      . exact⟨hn0,cA.zero⟩
      . exact⟨hn0,oV pok⟩
    refine⟨fun fu GK H'=>∃(ms:List (PyData×Addr)) (cs:List Cp) (outs:List Piece) (zs:List V) (u1 u2 u3 u4 u5 u6:Option V),GK=[some (.ref pp),some (.int (most:Nat)),some (.ref tp),some (.ref r),some (.ref pz),u1,u2,u3,u4,u5,u6]/\gR P w C H' r m d ms/\n9 ms cs/\jm ps.length most cs/\(∀c∈cs,c.1<ps.length/\cA xs c.2)/\H' pz=some (.lst zs)/\aX H' zs (outs.map dY)/\fY (cZ ps) most ps fu cs outs=ft ps most/\fu+outs.length=most+ps.length/\outs.length<=cs.length/\H' tp=some (.tup (vN hs))/\ao H H',⟨most+ps.length,[(d0,ka)],[gX ps],[],[],_,_,_,_,_,_,rfl,A3,cc2,⟨by simp,GY (HV _ _) hm1⟩,(fun c hc=>by rw [GR.mp hc];exact c0ok),hz3,.nil,rfl,rfl,Hg _,htp3,s3⟩,?_⟩
    clear A2 A3 hz3 s3 q3 htp3 cc2 cd0 npz htp2 s2
    rintro fu GK H4 ⟨ms,cs,outs,zs,u1,u2,u3,u4,u5,u6,rfl,A4,cc4,mP,hcs,hz4,rz4,hloop,hfu,hoc,htp4,s4⟩
    obtain⟨dx4,hob4⟩:=A4.ob
    have hzl:zs.length=outs.length:=by have:=rz4.len;rw [GO] at this;exact this
    have hml:ms.length=cs.length:=by have:=Paired.length cc4;rw [GO] at this;exact this
    have hml':(ms.map fun p=>V.ref p.2).length=ms.length:=GO ..
    have hcn:=mP.len fun c hc=>(hcs c hc).1
    refine⟨_,rfl,pz,_,rfl,.inl (aU.of hz4),_,rfl,r,C,dx4,_,_,rfl,hob4,T.cl,T.members,gO,m,_,rfl,.inl (aU.of A4.mem),_,_,rfl,rfl,_,rfl,?_⟩
    refine cB (fun hc=>?_) (fun hc=>?_)
    . have hlt:outs.length<ms.length:=by have:=of_decide_eq_true hc;omega
      obtain⟨fu,rfl⟩:∃f',fu=f' + 1:=⟨fu-1,by omega⟩
      have hmsi:ms[outs.length]?=some ms[outs.length]:=by simp [hlt]
      generalize ms[outs.length]=pm at hmsi
      obtain⟨c,hci,cd⟩:=fN cc4 (i:=outs.length) (x:=pm.1) (by rw [G8,hmsi];rfl)
      have hcm:=G9 hci
      obtain⟨hcl,hct⟩:=hcs c hcm
      have hps:ps[c.1]?=some ps[c.1]:=by simp [hcl]
      generalize ps[c.1]=pce at hps
      rw [qf hci hps] at hloop
      obtain⟨ds,e⟩:=pce
      obtain⟨p',xs',pc,da,ea,ws,ep,e1',el',hx',e2,e3,r3,e4⟩:=fK hp hps
      cases ep
      rw [e1] at e1'
      cases e1'
      have dok:=pok.fk _ (G9 hps)
      have eok:=pok.ends _ (G9 hps)
      obtain⟨fd,hfd,epm⟩:=id cd
      have rdm:=(A4.keys pm (G9 hmsi)).2
      rw [epm] at rdm
      obtain⟨pa,pvs,ere,hpm,rpv⟩:=aY.bZ rdm
      cases ere
      obtain⟨y1,t1,rfl,q1,rpv⟩:=rpv.cons_inv
      obtain⟨y2,t2,rfl,q2,rpv⟩:=rpv.cons_inv
      have z:=rpv.nil_inv
      subst z
      rw [q1.int_inv] at hpm
      have fv2:FV H4 y2 c.2:=hfd.fv q2
      refine⟨_,fun σ' H' h=>⟨fu,HG fu,h⟩,?_⟩
      refine⟨_,rfl,r,C,dx4,_,_,rfl,hob4,T.cl,T.members,gO,_,rfl,pz,_,rfl,.inl (aU.of hz4),m,_,_,_,rfl,rfl,aU.of A4.mem,bA (j:=zs.length) (by rw [hzl,G8,hmsi];rfl),pm.2,_,rfl,av.of hpm,rfl,_,_,rfl,_,_,rfl,rfl,?_⟩
      refine⟨_,rfl,_,rfl,pp,_,_,_,rfl,rfl,av.of (s4 _ _ e1),bA hx',pc,_,rfl,av.of (s4 _ _ e2),rfl,_,_,rfl,_,_,rfl,rfl,?_⟩
      have bok:=hct.va dok.2
      refine⟨_,rfl,_,rfl,y2,da,ws,ds,c.2,10,rfl,fv2,s4 _ _ e3,r3.same s4 (bH ds),(fun ss hs nd=>GY (hct.bB ss hs nd) hx10),(by have:ds.length<=6:=dok.1;omega),fun gv H5 g5 s5=>⟨_,rfl,gv,ea,cw c.2 ds,e,rfl,g5,s5 _ _ (s4 _ _ e4),(fun ss hs nd=>GY (bok.bB ss hs nd) (by omega)),fun at_ vs2 H6 hat pv s6=>?_⟩⟩
      have lok:=xb bok eok
      obtain⟨hll,hl2⟩:=vb (e:=e) bok
      have s46:=s5.trans s6
      have A6:=A4.mv cc4.kf (fun c o h _=>s46 c o h) (fun p zs h=>s46 _ _ h)
      have hz6:=s46 _ _ hz4
      have htp6:=s46 _ _ htp4
      have hvl:vs2.length=(cQ (cw c.2 ds) e).length:=Paired.length pv
      generalize hls:cQ (cw c.2 ds) e=ls at hloop lok hll hl2 pv hvl
      refine⟨_,rfl,at_,rfl,⟨_,av.of hat⟩,fun acc na=>?_⟩
      have nam:acc≠m:=(aG A6.mem na).symm
      have nad:acc≠d:=(aG A6.mL na).symm
      have nar:acc≠r:=by obtain⟨dx,h⟩:=A6.ob;exact (aG h na).symm
      have kb:∀{H':Hp},kJ m d H6 H'->∀p zs,H6 p=some (.tup zs)->H' p=some (.tup zs):=fun b p zs h=>b p _ h (bN h A6.mem (by intro z;cases z)) (bN h A6.mL (by intro z;cases z))
      refine jd (K:=K) (a:=at_) (xs:=vs2) (fun i ys GL H'=>∃(cv:Option V) (ms':List (PyData×Addr)),GL=[cv,some (.ref r),some (.ref tp),some (.int (most:Nat))]/\gR P w C H' r m d ms'/\n9 ms' (cC (cZ ps) most cs (ls.take i)).1/\ys=vN (cC (cZ ps) most cs (ls.take i)).2/\H' acc=some (.lst ys)/\kJ m d H6 H') ?_ ?_ ?_ ?_
      . have qn:=ao.new (o:=.lst []) na
        exact⟨none,ms,rfl,A6.mv cc4.kf (fun c o h _=>qn c o h) (fun p zs h=>qn _ _ h),cc4,rfl,af,kJ.of_same qn⟩
      . rintro i ys GL H7 hi ⟨cv,ms',rfl,A7,cc7,rfl,ha,b7⟩
        refine⟨av.of (kb b7 _ _ hat),ha,bE ?_⟩
        obtain⟨_,_,hlen,_⟩:=iD (tops:=cZ ps) (ls:=ls.take i) (ns:=[]) mP hcs fun c hc=>lok c (Jm hc)
        rw [GO]
        unfold cC
        rw [hlen,Hm]
        show 0+_<=_
        omega
      . rintro i y ys GL H7 hi ⟨cv,ms',rfl,A7,cc7,rfl,ha,b7⟩
        obtain⟨pr,hpr,qa,u,rfl,hq,fvu⟩:=fN pv hi
        obtain⟨k,U⟩:=pr
        obtain⟨hkl,hUok⟩:=lok _ (G9 hpr)
        obtain⟨cok7,hcs7,_,_⟩:=iD (tops:=cZ ps) (ls:=ls.take i) (ns:=[]) mP hcs fun c hc=>lok c (Jm hc)
        have hcn7:=jm.len cok7 fun c hc=>(hcs7 c hc).1
        have hml7:ms'.length=(cC (cZ ps) most cs (ls.take i)).1.length:=by have:=Paired.length cc7;rw [GO] at this;exact this
        have hnx:=vM (cZ ps) most (cs:=cs) hpr
        have fvu7:=fvu.aK (kb b7)
        obtain⟨fdu,hfdu,ru⟩:=fvu7.fd
        have hq7:=kb b7 _ _ hq
        have cdl:CD (k,U) (.tuple [.int (k:Nat),fdu]):=⟨fdu,hfdu,rfl⟩
        obtain⟨dx7,hob7⟩:=A7.ob
        have htp7:=kb b7 _ _ htp6
        refine cY ?_
        refine gK ?_
        refine bL ?_
        refine⟨_,rfl,r,dx7,_,rfl,hob7,uS,_,rfl,_,rfl,_,rfl,r,C,dx7,_,_,rfl,hob7,T.cl,T.places,iC,_,rfl,qa,tp,d,most,k,U,_,hs,u,ms',_,cZ ps,rfl,hq7,.tup hq7 (.cons (.int _) (.cons ru .nil)),cdl,hUok.lay nok,htp7,hhs,A7.mL,A7.jX,cc7,fun a d' H8 rd' cd' s8=>?_⟩
        have A8:=A7.mv cc7.kf (fun c o h _=>s8 c o h) (fun p zs h=>s8 _ _ h)
        have hcpok:cA xs (bK (cZ ps) most (cC (cZ ps) most cs (ls.take i)).1 (k,U)).2:=by
          unfold bK
          split
          . exact cA.zero
          . split
            . exact hUok
            . exact cA.zero
        refine⟨r,m,d,a,d',ms',rfl,A8,(by rw [hml7];unfold cC;omega),cd'.key (hcpok.lay nok),rd',cd'.kf,cc7.kf,fun H9 A9 b9=>?_⟩
        have ha9:=b9 _ _ (s8 _ _ ha) nam nad
        have cc9:=n9.put (a:=a) cc7 cd'
        have eix:=(cd'.mem cc9).2
        rw [eix]
        refine⟨ha9,_,kL ms' d' a,rfl,?_,?_,?_,af,fun c' o h c1 c2=>?_⟩
        . refine A9.mv cc9.kf (fun x o h z=>?_) (fun p zs h=>by rw [au (bN h ha9 (by intro z;cases z))];exact h)
          rw [au ?_]
          . exact h
          . rcases z with rfl | rfl | rfl
            . exact nar.symm
            . exact nam.symm
            . exact nad.symm
        . rw [hnx];exact cc9
        . rw [hnx]
          show _=((cC (cZ ps) most cs (ls.take i)).2++[_]).map _
          rw [G3]
          rfl
        . rw [au (aG h na)]
          exact b9 c' o (s8 _ _ (b7 c' o h c1 c2)) c1 c2
      rintro ys GL H7 ⟨cv,ms',rfl,A7,cc7,rfl,ha,b7⟩
      rw [hvl,Hr] at cc7 ha
      obtain⟨cok7,hcs7,hlen7,more,emore⟩:=iD (tops:=cZ ps) (ls:=ls) (ns:=[]) mP hcs lok
      have hcn7:=jm.len cok7 fun c hc=>(hcs7 c hc).1
      have s7:ao H H7:=fun c o h=>b7 c o (s46 c o (s4 c o h)) (aG h nm) (aG h nd)
      have hz7:H7 pz=some (.lst zs):=b7 _ _ hz6 npm npd
      have hlen7':(cC (cZ ps) most cs ls).2.length=ls.length:=by unfold cC;rw [hlen7];show 0+_=_;omega
      refine⟨_,rfl,.inl ⟨rfl,_,aU.of hz7⟩,_,rfl,_,rfl,_,rfl,ea,acc,e,(cC (cZ ps) most cs ls).2,rfl,s7 _ _ e4,ha,(by rw [hlen7'];exact hll),(by rw [hlen7'];exact hl2),fun t3 H8 ht3 s8=>⟨ln2,fun t4 nt4=>?_⟩⟩
      have q4:=ao.new (o:=.tup [.ref da,.ref t3]) nt4
      have s79:=s8.trans q4
      have ht9:=q4 _ _ ht3
      have h49:(upd H8 t4 (.tup [.ref da,.ref t3])) t4=some (.tup [.ref da,.ref t3]):=af
      generalize (upd H8 t4 (.tup [.ref da,.ref t3]))=H9 at q4 s79 ht9 h49
      have hz9:=s79 _ _ hz7
      refine⟨pz,_,_,rfl,rfl,hz9,bE (by omega),?_⟩
      have kt:∀p xs,H9 p=some (.tup xs)->(upd H9 pz (.lst (zs++[.ref t4]))) p=some (.tup xs):=fun p xs h=>by rw [au (bN h hz9 (by intro z;cases z))];exact h
      have s9:=s7.trans s79
      have kt49:∀p xs,H4 p=some (.tup xs)->(upd H9 pz (.lst (zs++[.ref t4]))) p=some (.tup xs):=fun p xs h=>kt _ _ (s79 _ _ (kb b7 _ _ (s46 _ _ h)))
      refine⟨ms',(cC (cZ ps) most cs ls).1,outs++[(ds,jN e (cC (cZ ps) most cs ls).2)],_,_,_,_,_,_,_,rfl,A7.mv cc7.kf (fun x o h z=>?_) (fun p zs h=>kt _ _ (s79 _ _ h)),cc7,cok7,hcs7,af,?_,hloop,(by rw [GW];show fu+(_+1)=_;omega),?_,kt49 _ _ htp4,s9.put npzH⟩
      . rw [au ?_]
        . exact s79 _ _ h
        . rcases z with rfl | rfl | rfl
          . exact npr.symm
          . exact npm.symm
          . exact npd.symm
      . rw [G3]
        have rd4:aY H9 (.ref t4) (dY (ds,jN e (cC (cZ ps) most cs ls).2)):=.tup h49 (.cons (.tup (s9 _ _ e3) (r3.same s9 (bH ds))) (.cons (zE ht9) .nil))
        exact aX.app (rz4.aK kt49 (cD outs)) (rd4.aK kt (je _))
      . have:(cC (cZ ps) most cs ls).1.length=cs.length+more.length:=by unfold cC;rw [emore,GW]
        rw [this,GW]
        show _+1<=_
        omega
    . have hnl:¬outs.length<ms.length:=fun z=>hc (decide_eq_true (by omega))
      rw [sX (Iz (by omega))] at hloop
      rw [<-hloop] at q
      refine⟨_,rfl,pz,_,rfl,.inl ⟨aU.of hz4,fun t1 n1=>?_⟩⟩
      have q1:=ao.new (o:=.tup zs) n1
      refine⟨_,rfl,r,C,dx4,_,_,rfl,q1 _ _ hob4,T.cl,T.members,gO,m,_,rfl,.inl ⟨aU.of (q1 _ _ A4.mem),fun t2 n2=>⟨ln2,fun t3 n3=>?_⟩⟩⟩
      have q2:=ao.new (o:=.tup (ms.map fun p=>V.ref p.2)) n2
      have q3:=ao.new (o:=.tup [.ref t1,.ref t2]) n3
      have q13:=(q1.trans q2).trans q3
      refine q (.ref t3) (ms.map (·.1)) _ cc4 (.tup af (.cons (.tup (q3 _ _ (q2 _ _ af)) (rz4.same q13 (cD outs))) (.cons (.tup (q3 _ _ af) (xc fun p hp=>(A4.keys p hp).2.same q13 (cc4.kf p hp))) .nil))) (s4.trans q13)
theorem BS {f:Addr} {fd:FuncData} (F:b0 K "meets" "meets" rO f fd) (Z:Bl mg) (O_covers:Own P w K mg base "covers" 2 ["facts", "others"] uV):bp P w K mg base bT 3 f fd ["one", "lead"] rG:=by
 refine F.ok (k:=2) BL (fun vs H Q E h=>?_) (fun cdv A outer s H vs Q E hr h=>?_)
 ·obtain⟨ov,lv,c,k,U,rfl,_⟩:=h
  rfl
 ·obtain⟨ov,lv,c,k,U,rfl,hov,hlv,bB,q⟩:=h
  refine⟨_,(ar (aH (iu (ef bw (aI aN (pv 0) ah (fun _ _=>rfl)) (aI aN (pv 1) ah (fun _ _=>rfl)) (aJ _)) (fI (aw O_covers (hr.mono (by decide)) rfl (aa (aI aN (pv 0) ah (fun _ _=>rfl)) (aa (aI aN (pv 1) ah (fun _ _=>rfl)) ae))))))),?_⟩
  obtain⟨oq,ou,rfl,hoq,hou⟩:=hov
  obtain⟨lq,lu,rfl,hlq,hlu⟩:=hlv
  have hlq:H lq=some (.tup [.int (k:Nat),lu]):=hlq
  have hlu:FV H lu U:=hlu
  refine⟨_,rfl,oq,_,0,_,rfl,rfl,av.of hoq,bW,_,rfl,lq,_,0,_,rfl,rfl,av.of hlq,bW,rfl,_,rfl,?_⟩
  by_cases hc:c.1=(k:Int)
  ·refine cu (decide_eq_true (by rw [hc])) ?_
   refine⟨_,rfl,oq,_,1,_,rfl,rfl,av.of hoq,cR,_,rfl,lq,_,1,_,rfl,rfl,av.of hlq,cR,ou,lu,c.2,U,rfl,hou,hlu,bB,fun b H1 hb s1=>?_⟩
   exact q b H1 (hb.trans ⟨fun h=>⟨hc,h⟩,fun h=>h.2⟩) s1
  ·refine bc (decide_eq_false fun z=>hc (by injection z)) ?_
   exact q false H ⟨(fun h=>nomatch h),fun h=>absurd h.1 hc⟩ (ao.refl H)
theorem nK {f:Addr} {fd:FuncData} (F:b0 K "same_end_holds" "same_end_holds" gn f fd) (Z:Bl mg) (O_ways_on:Own P w K mg base "ways_on" 3 ["end"] jg) (O_known_beyond:Own P w K mg base "known_beyond" 4 ["facts", "end"] (oR aA)) (O_meets:Own P w K mg base "meets" 3 ["one", "lead"] rG):bp P w K mg base bT 6 f fd ["facts", "end", "other_end", "paper"] tu:=by
  refine F.ok (k:=5) eX (fun vs H Q E h=>?_) (fun cdv A outer s H vs Q E hr h=>?_)
  . obtain⟨fv,ea,fa,pa,T,e,f,us,paper,rfl,_⟩:=h
    rfl
  . obtain⟨fv,ea,fa,pa,T,e,f,us,paper,rfl,hf,hea,hfa,hpa,hpp,bB,hh,hwl,fewp,q⟩:=h
    refine⟨_,(ai (eM PassesOwn.never rfl (CW rfl Z.zip (aa (aw O_ways_on (hr.mono (by decide)) rfl (aa (pv 1) ae)) (aa (aw O_known_beyond (hr.mono (by decide)) rfl (aa (pv 0) (aa (pv 1) ae))) (aa (aw O_ways_on (hr.mono (by decide)) rfl (aa (pv 2) ae)) ae)))) (cG rfl (aM (aB (i:=4) eX.nd rfl (GN rfl)) (aM (aB (i:=5) eX.nd rfl (GN rfl)) (aM (aB (i:=6) eX.nd rfl (GN rfl)) cb))))
      (ar (aZ (PW.pt (eZ (fH (gu (pv 5))) (d9 (o8 (iZ (aw O_meets (hr.mono (by decide)) rfl (aa (aI aN (pv 3) (pv 6) (fun _ _=>rfl)) (aa (aV (aa (pv 4) (aa (pv 5) ae))) ae))))))))
      (ar (aH fS))
      aP)))
      (ar (aH fS))),?_⟩
    refine⟨_,rfl,ea,e,rfl,hea,fun t1 H1 ht1 s1=>?_⟩
    refine⟨_,rfl,_,rfl,fv,ea,T,e,rfl,FV.same hf s1,s1 _ _ hea,bB,fun t2 bs H2 ht2 hbs s2=>?_⟩
    have s12:=s1.trans s2
    refine⟨_,rfl,fa,f,rfl,s12 _ _ hfa,fun t3 H3 ht3 s3=>?_⟩
    have s03:=s12.trans s3
    have ht1:=s3 _ _ (s2 _ _ ht1)
    have ht2:=s3 _ _ ht2
    have hbs:=hbs.same s3
    have hpa:=s03 _ _ hpa
    have hpp:=hpp.same s03
    have l1:(aR e).length=(aR f).length:=by
      cases e with
      | stop=>rw [tm.mp hh]
      | go p=>obtain⟨r,rfl⟩:=xj.mp hh;rfl
      | bu b x n p r=>obtain⟨p',r',rfl⟩:=vi.mp hh;rfl
    have l2:bs.length=(aR e).length:=by rw [fw hbs];cases e <;> rfl
    have hul:=fw hpp
    refine⟨t1,t2,t3,rfl,⟨_,av.of ht1⟩,⟨_,av.of ht2⟩,⟨_,av.of ht3⟩,?_⟩
    have hwe:((aR e).map fun k=>V.int (k:Nat))=vN (aR e):=rfl
    have hwf:((aR f).map fun k=>V.int (k:Nat))=vN (aR f):=rfl
    rw [hwe] at ht1
    rw [hwf] at ht3
    have le:(vN (aR e)).length=(aR e).length:=GO ..
    have lf:(vN (aR f)).length=(aR f).length:=GO ..
    refine AD (K:=K) (a:=t1) (b:=t2) (c:=t3) (xs:=vN (aR e)) (ys:=bs) (ws:=vN (aR f)) (by omega) (by omega) (fun i GK H'=>∃(u1 u2 u3:Option V),GK=[some fv,some (.ref ea),some (.ref fa),some (.ref pa),u1,u2,u3]/\(∀(j w a:Nat) (U:Str->Sx),j<i->(aR e)[j]?=some w->(gQ T e)[j]?=some (some U)->(aR f)[j]?=some a->Mt paper a w U)/\ao H3 H') ?_ ?_ ?_ ?_
    . exact⟨_,_,_,rfl,(fun j w a U h=>absurd h (Nat.not_lt_zero _)),ao.refl _⟩
    . rintro i GK H4 hi ⟨u1,u2,u3,rfl,hm,s4⟩
      exact⟨av.of (s4 _ _ ht1),av.of (s4 _ _ ht2),av.of (s4 _ _ ht3)⟩
    . rintro i x y r GK H4 t hx hy hr ht ⟨u1,u2,u3,rfl,hm,s4⟩
      obtain⟨w0,hw0,rfl⟩:∃k,(aR e)[i]?=some k/\x=V.int (k:Nat):=by
        rw [G8] at hx
        cases z:(aR e)[i]? with
        | none=>rw [z] at hx;cases hx
        | some k=>rw [z] at hx;exact⟨k,rfl,(G5.inj hx).symm⟩
      obtain⟨a0,ha0,rfl⟩:∃k,(aR f)[i]?=some k/\r=V.int (k:Nat):=by
        rw [G8] at hr
        cases z:(aR f)[i]? with
        | none=>rw [z] at hr;cases hr
        | some k=>rw [z] at hr;exact⟨k,rfl,(G5.inj hr).symm⟩
      obtain⟨o,ho,by_⟩:=L2.fN hbs hy
      have s5:=ao.new (o:=.tup [.int (w0:Nat),y,.int (a0:Nat)]) ht
      refine⟨t,_,rfl,av.of af,rfl,_,_,rfl,_,_,rfl,_,_,rfl,rfl,?_⟩
      generalize (upd H4 t (.tup [.int (w0:Nat),y,.int (a0:Nat)]))=H5 at s5 ⊢
      have s35:=s4.trans s5
      have by5:=BV.same by_ s35
      refine⟨_,rfl,_,rfl,?_⟩
      cases o with
      | none =>
        have by5:y=.bC:=by5
        subst by5
        refine bc rfl ?_
        refine bO ?_
        refine⟨_,_,_,rfl,fun j w a U hj h1 h2 h3=>?_,s35⟩
        by_cases hji:j=i
        . subst hji
          rw [ho] at h2
          cases h2
        . exact hm j w a U (by omega) h1 h2 h3
      | some U0 =>
        have by5:FV H5 y U0:=by5
        have hne:decide (y=V.bC)=false:=by
          obtain⟨p,_,_,rfl,_⟩:=by5
          rfl
        refine cu (by rw [hne];rfl) ?_
        have hal:a0<paper.length:=hwl a0 (G9 ha0)
        have hca:paper[a0]?=some paper[a0]:=by simp [hal]
        have hcm:=HK hal
        generalize paper[a0]=c0 at hca hcm
        obtain⟨ov,hov,hpv⟩:=gi hpp hca
        refine⟨_,rfl,_,rfl,pa,_,_,_,rfl,rfl,av.of (s35 _ _ hpa),bA hov,_,rfl,_,rfl,ln2,fun lt nlt=>?_⟩
        have s6:=ao.new (o:=.tup [.int (w0:Nat),y]) nlt
        refine⟨ov,.ref lt,c0,w0,U0,rfl,hpv.aK (fun p zs e=>s6 _ _ (s35 _ _ e)),⟨lt,y,rfl,af,FV.same by5 s6⟩,fewp c0 hcm,fun b H7 hb s7=>⟨_,rfl,?_⟩⟩
        have s37:=(s35.trans s6).trans s7
        cases b with
        | true =>
          refine bO ?_
          refine⟨_,_,_,rfl,fun j w a U hj h1 h2 h3=>?_,s37⟩
          by_cases hji:j=i
          . subst hji
            rw [ho] at h2
            cases h2
            rw [hw0] at h1
            cases h1
            rw [ha0] at h3
            cases h3
            exact⟨c0,hca,hb.mp rfl⟩
          . exact hm j w a U (by omega) h1 h2 h3
        | false =>
          refine bL ?_
          refine q false H7 ⟨(fun h=>nomatch h),fun h=>?_⟩ (s03.trans s37)
          obtain⟨c1,g1,g2⟩:=(qo hh).mp h i w0 a0 U0 hw0 ho ha0
          rw [hca] at g1
          cases g1
          exact hb.mpr g2
    . rintro GK H4 ⟨u1,u2,u3,rfl,hm,s4⟩
      refine q true H4 ⟨fun _=>(qo hh).mpr fun i w a U h1 h2 h3=>?_,fun _=>rfl⟩ (s03.trans s4)
      exact hm i w a U (by rw [le];exact (G7.mp h1).1) h1 h2 h3
theorem vw {f:Addr} {fd:FuncData} (F:b0 K "end_holds" "end_holds" jQ f fd) (Z:Bl mg) (O_without_ways:Own P w K mg base "without_ways" 4 ["end"] mG) (O_same_end_holds:Own P w K mg base "same_end_holds" 6 ["facts", "end", "other_end", "paper"] tu) (O_leads:Own P w K mg base "leads" 5 ["facts", "end"] (rB aA)) (O_meets:Own P w K mg base "meets" 3 ["one", "lead"] rG):bp P w K mg base bT 7 f fd ["facts", "end", "other_end", "paper"] qq:=by
  refine F.ok (k:=6) mZ (fun vs H Q E h=>?_) (fun cdv A outer s H vs Q E hr h=>?_)
  . obtain⟨fv,ea,fa,pa,T,e,f,us,paper,xs,rfl,_⟩:=h
    rfl
  . obtain⟨fv,ea,fa,pa,T,e,f,us,paper,xs,rfl,hf,hea,hfa,hpa,hpp,tok,hx,le,lf,hwl,fewp,q⟩:=h
    refine⟨_,(ai (aZ (aF (yX hr.units) (aw O_without_ways (hr.mono (by decide)) rfl (aa (pv 1) ae)) (aw O_without_ways (hr.mono (by decide)) rfl (aa (pv 2) ae)) (aJ _))
      (ar (aH (aw O_same_end_holds (hr.mono (by decide)) rfl (aa (pv 0) (aa (pv 1) (aa (pv 2) (aa (pv 3) ae)))))))
      aP)
      (ai (aL (i:=4) mZ.nd rfl (GN rfl) (aw O_leads (hr.mono (by decide)) rfl (aa (pv 0) (aa (pv 1) ae))))
      (ar (aH (iu (ef bw (aI aN (pv 2) ah (fun _ _=>rfl)) bh (aJ _)) (iu (ef bw (aQ aO rfl Z.len bJ (aa (pv 4) ae)) ah (aJ _)) (fI (aw O_meets (hr.mono (by decide)) rfl (aa (aI aN (pv 3) (aI aN (pv 2) ah (fun _ _=>rfl)) (fun _ _=>rfl)) (aa (aI aN (pv 4) ah (fun _ _=>rfl)) ae)))))))))),?_⟩
    have bB:gP T 62:=fun ss a b=>GY (tok.bB ss a b) hx
    refine⟨_,rfl,ea,e,rfl,hea,fun t1 H1 ht1 s1=>?_⟩
    refine⟨_,rfl,fa,f,rfl,s1 _ _ hfa,fun t2 H2 ht2 s2=>?_⟩
    have s02:=s1.trans s2
    have k1:=tq le
    have k2:=tq lf
    refine⟨.tuple (bQ e),.tuple (bQ f),.tup (s2 _ _ ht1) (xi e),.tup ht2 (xi f),k1.lay,k2.lay,(by have:=k1.dep;omega),_,rfl,?_⟩
    have ek:PyData.eqv (.tuple (bQ e)) (.tuple (bQ f))=decide (bQ e=bQ f):=by
      rw [vg k1 k2]
      by_cases h:bQ e=bQ f
      . rw [decide_eq_true h,decide_eq_true (by rw [h])]
      . rw [decide_eq_false h,decide_eq_false fun z=>h (by injection z)]
    rw [show (if false=true then !PyData.eqv (.tuple (bQ e)) (.tuple (bQ f)) else PyData.eqv (.tuple (bQ e)) (.tuple (bQ f)))=decide (bQ e=bQ f) from ek]
    by_cases hh:bQ e=bQ f
    . refine cu (decide_eq_true hh) ?_
      refine⟨_,rfl,_,rfl,_,rfl,_,rfl,fv,ea,fa,pa,T,e,f,us,paper,rfl,FV.same hf s02,s02 _ _ hea,s02 _ _ hfa,s02 _ _ hpa,hpp.same s02,bB,hh,hwl,fewp,fun b H3 hb s3=>?_⟩
      exact q b H3 hb (s02.trans s3)
    . refine bc (decide_eq_false hh) ?_
      refine⟨_,rfl,_,rfl,fv,ea,T,e,rfl,FV.same hf s02,s02 _ _ hea,bB,fun t3 lvs H3 ht3 hlv s3=>?_⟩
      have s03:=s02.trans s3
      have hfa3:=s03 _ _ hfa
      have hll:=fw hlv
      refine⟨_,rfl,fa,_,0,_,rfl,rfl,av.of hfa3,BC f,rfl,_,rfl,?_⟩
      have eh:=yj (paper:=paper) (T:=T) hh
      cases f with
      | stop =>
        refine bc (show decide (V.str (wE L2.End.stop)=V.str "go")=false by decide +kernel) ?_
        exact q false H3 ⟨(fun h=>nomatch h),fun h=>by obtain⟨r',ld,h1,_⟩:=eh.mp h;cases h1⟩ s03
      | bu b x n p r =>
        refine bc (show decide (V.str (wT b)=V.str "go")=false by cases b <;> decide +kernel) ?_
        exact q false H3 ⟨(fun h=>nomatch h),fun h=>by obtain⟨r',ld,h1,_⟩:=eh.mp h;cases h1⟩ s03
      | go r =>
        refine cu (decide_eq_true rfl) ?_
        refine⟨_,rfl,t3,_,rfl,.inr (av.of ht3),rfl,_,rfl,?_⟩
        by_cases h1:lvs.length=1
        . refine cu (decide_eq_true (by rw [h1];rfl)) ?_
          rw [hll] at h1
          obtain⟨ld0,hld⟩:∃ld0,cQ T e=[ld0]:=List.length_eq_one_iff.mp h1
          rw [hld] at hlv
          cases hlv with
          | @cons lv _ _ _ hp0 hr0 =>
          cases hr0
          have hrl:r<paper.length:=hwl r (GR.mpr rfl)
          have hca:paper[r]?=some paper[r]:=by simp [hrl]
          have hcm:=HK hrl
          generalize paper[r]=c0 at hca hcm
          obtain⟨ov,hov,hpv⟩:=gi (hpp.same s03) hca
          refine⟨_,rfl,_,rfl,fa,_,1,_,rfl,rfl,av.of hfa3,cR,pa,_,_,_,rfl,rfl,av.of (s03 _ _ hpa),bA hov,_,rfl,t3,_,0,_,rfl,rfl,av.of ht3,bW,ov,lv,c0,ld0.1,ld0.2,rfl,hpv,hp0,fewp c0 hcm,fun b H4 hb s4=>?_⟩
          refine q b H4 (hb.trans (eh.trans ⟨fun ⟨r',ld',g1,g2,c1,g3,g4⟩=>?_,fun h=>⟨r,ld0,rfl,hld,c0,hca,h⟩⟩).symm) (s03.trans s4)
          cases g1
          rw [hld] at g2
          cases g2
          rw [hca] at g3
          cases g3
          exact g4
        . refine bc (decide_eq_false fun z=>h1 (by injection z with z;omega)) ?_
          refine q false H3 ⟨(fun h=>nomatch h),fun h=>?_⟩ s03
          obtain⟨r',ld,g1,g2,_⟩:=eh.mp h
          rw [hll,g2] at h1
          exact absurd rfl h1
theorem rR {f:Addr} {fd:FuncData} (F:b0 K "piece_holds" "piece_holds" iI f fd) (Z:Bl mg) (O_end_holds:Own P w K mg base "end_holds" 7 ["facts", "end", "other_end", "paper"] qq) (O_behind:Own P w K mg base "behind" 3 ["facts", "deeds"] oO):bp P w K mg base bT 8 f fd ["one", "piece", "other_piece", "paper"] mQ:=by
 refine F.ok (k:=7) ff (fun vs H Q E h=>?_) (fun cdv A outer s H vs Q E hr h=>?_)
 ·obtain⟨ov,pc,qc,pa,da,ea,da',ea',ws,ws',us,c,ds,ds',e,f,paper,xs,rfl,_⟩:=h
  rfl
 ·obtain⟨ov,pc,qc,pa,da,ea,da',ea',ws,ws',us,c,ds,ds',e,f,paper,xs,rfl,hov,hpc,hda,rds,hea,hqc,hda',rds',hea',hpa,hpp,tok,dok,hd12,hx,ld,ld',le,lf,hwl,fewp,q⟩:=h
  refine⟨_,(ai (cN (pv 1) (cG rfl (aM (aB (i:=4) ff.nd rfl (GN rfl)) (aM (aB (i:=5) ff.nd rfl (GN rfl)) cb))))
   (ai (cN (pv 2) (cG rfl (aM (aB (i:=6) ff.nd rfl (GN rfl)) (aM (aB (i:=7) ff.nd rfl (GN rfl)) cb))))
   (ar (aH (iu (ef (yX hr.units) (pv 4) (pv 6) (aJ _)) (fI (aw O_end_holds (hr.mono (by decide)) rfl (aa (aw O_behind (hr.mono (by decide)) rfl (aa (aI aN (pv 0) ah (fun _ _=>rfl)) (aa (pv 4) ae))) (aa (pv 5) (aa (pv 7) (aa (pv 3) ae))))))))))),?_⟩
  refine⟨_,rfl,pc,_,rfl,av.of hpc,rfl,_,_,rfl,_,_,rfl,rfl,?_⟩
  refine⟨_,rfl,qc,_,rfl,av.of hqc,rfl,_,_,rfl,_,_,rfl,rfl,?_⟩
  have k1:=kN ld
  have k2:=kN ld'
  refine⟨_,rfl,_,rfl,.tuple (ds.map bG),.tuple (ds'.map bG),.tup hda rds,.tup hda' rds',k1.lay,k2.lay,(by have:=k1.dep;omega),_,rfl,?_⟩
  rw [show (if false=true then !PyData.eqv (.tuple (ds.map bG)) (.tuple (ds'.map bG)) else PyData.eqv (.tuple (ds.map bG)) (.tuple (ds'.map bG)))=decide (PyData.tuple (ds.map bG)=.tuple (ds'.map bG)) from vg k1 k2]
  by_cases hd:ds=ds'
  ·refine cu (decide_eq_true (vj.mpr hd)) ?_
   obtain⟨oq,ou,rfl,hoq,hou⟩:=hov
   refine⟨_,rfl,oq,_,1,_,rfl,rfl,av.of hoq,cR,_,rfl,ou,da,ws,ds,c.2,xs.length,rfl,hou,hda,rds,tok.bB,(by omega),fun v H1 f1 s1=>?_⟩
   refine⟨_,rfl,_,rfl,_,rfl,v,ea,ea',pa,cw c.2 ds,e,f,us,paper,xs,rfl,f1,s1 _ _ hea,s1 _ _ hea',s1 _ _ hpa,hpp.same s1,tok.va dok,(by omega),le,lf,hwl,fewp,fun b H2 hb s2=>?_⟩
   exact q b H2 (hb.trans ⟨fun h=>⟨hd,h⟩,fun h=>h.2⟩) (s1.trans s2)
  ·refine bc (decide_eq_false fun z=>hd (vj.mp z)) ?_
   exact q false H ⟨(fun h=>nomatch h),fun h=>absurd h.1 hd⟩ (ao.refl H)
theorem rS {f:Addr} {fd:FuncData} (F:b0 K "paper_holds" "paper_holds" iJ f fd) (Z:Bl mg) (O_holds:Own P w K mg base "holds" 2 ["facts", "worths"] uU) (O_piece_holds:Own P w K mg base "piece_holds" 8 ["one", "piece", "other_piece", "paper"] mQ):bp P w K mg base bT 9 f fd ["plan", "other", "paper"] mR:=by
  refine F.ok (k:=8) rP (fun vs H Q E h=>?_) (fun cdv A outer s H vs Q E hr h=>?_)
  . obtain⟨plv,qlv,pa,ps,qs,us,paper,xs,m,rfl,_⟩:=h
    rfl
  . obtain⟨plv,qlv,pa,ps,qs,us,paper,xs,m,rfl,hp,hq,hpa,hpp,pok,qin,layq,nok,mP,hx,hm12,hp0,hpn,hn0,hn,q⟩:=h
    refine⟨_,(ai (aZ (aF xu (aQ aO rfl Z.len bJ (aa (pv 2) ae)) (aQ aO rfl Z.len bJ (aa (pv 1) ae)) (aJ _))
      (ar (aH fS))
      aP)
      (ai (aZ (o8 (iZ (aQ (jC rfl) rfl Z.all pW (aa (de ["one"] ["plan"] [0] rfl (eI (pv 2)) rfl (by decide +kernel) (by decide +kernel) (by decide +kernel) ⟨⟨rfl,.inl rfl,rfl⟩,True.intro⟩ (fun _ _ _ _=>(aB (i:=0) (show ((["one"]:List Str)++(["plan"]:List Str)).Nodup by decide +kernel) rfl (GN rfl) (hf:=G6 rfl))) (fun _ _ _ _=>dI) (fun _ _ _ _=>(Ao m9 gH ah (aI (vh (K:=K) rfl) (pv 0) ah (fun _ _=>rfl)) (aQ (vP (K:=K) rfl) rfl Z.len bJ (aa (pv 1) ae))))) ae))))
      (ar (aH fS))
      aP)
      (ai (aZ (PW.pt (m7 (aF xu (aI aN (aI aN (pv 2) ah (fun _ _=>rfl)) ah (fun _ _=>rfl)) ah (aJ _)) (j0 (o8 (iZ (aw O_holds (hr.mono (by decide)) rfl (aa (aI aN (aI aN (pv 2) ah (fun _ _=>rfl)) ah (fun _ _=>rfl)) (aa kC ae))))))))
      (ar (aH fS))
      aP)
      (ar (aH (aQ (jC rfl) rfl Z.all pW (aa (de ["one", "piece"] ["paper", "plan"] [2,0] rfl (ur rfl Z.zip (aa (pv 2) (aa (pv 1) ae))) rfl (by decide +kernel) (by decide +kernel) (by decide +kernel) ⟨⟨rfl,.inl rfl,rfl⟩,⟨⟨rfl,.inl rfl,rfl⟩,True.intro⟩⟩ (fun _ _ _ _=>(j4 (K:=K) (n:=2) rfl (cG (n:=2) rfl (aM (aB (i:=0) (show ((["one", "piece"]:List Str)++(["paper", "plan"]:List Str)).Nodup by decide +kernel) rfl (GN rfl) (hf:=G6 rfl)) (aM (aB (i:=1) (show ((["one", "piece"]:List Str)++(["paper", "plan"]:List Str)).Nodup by decide +kernel) rfl (GN rfl) (hf:=G6 rfl)) cb))))) (fun _ _ _ _=>dI) (fun _ _ _ _=>(aw O_piece_holds (hr.mono (by decide)) rfl (aa (pv 0) (aa (aI (vh (K:=K) rfl) (pv 3) (aI (vh (K:=K) rfl) (pv 0) ah (fun _ _=>rfl)) (fun _ _=>rfl)) (aa (pv 1) (aa (pv 2) ae))))))) ae))))))),?_⟩
    obtain⟨pp,vs,rfl,e1,rvs⟩:=aY.bZ hp
    have hvl:vs.length=ps.length:=by have:=rvs.len;rw [GO] at this;exact this
    obtain⟨qp,ws,rfl,e1q,rws⟩:=aY.bZ hq
    have hwl:ws.length=qs.length:=by have:=rws.len;rw [GO] at this;exact this
    have hul:=fw hpp
    have bB:∀c∈paper,gP c.2 63:=fun c hc=>fun ss a b=>GY ((mP c hc).bB ss a b) (by omega)
    have layp:=oQ nok pok
    refine⟨_,rfl,pa,_,rfl,.inr (av.of hpa),_,rfl,qp,_,rfl,.inr (av.of e1q),rfl,_,rfl,?_⟩
    by_cases hlen:us.length=ws.length
    case neg =>
      refine cu (by rw [decide_eq_false fun z=>hlen (by injection z with z;omega)];rfl) ?_
      exact q false H ⟨(fun h=>nomatch h),fun h=>absurd h.len (by omega)⟩ (ao.refl H)
    refine bc (by rw [hlen,decide_eq_true rfl];rfl) ?_
    have hlen':paper.length=qs.length:=by omega
    refine⟨_,rfl,pa,rfl,⟨_,av.of hpa⟩,fun acc na=>?_⟩
    refine jd (K:=K) (a:=pa) (xs:=us) (fun i ys GL H'=>∃(c1:Option V),GL=[c1,some (.ref pp)]/\ys=(paper.take i).map (fun c=>V.bl (jo ps.length c))/\H' acc=some (.lst ys)/\ao H H') ?_ ?_ ?_ ?_
    . exact⟨none,rfl,rfl,af,ao.new na⟩
    . rintro i ys GL H1 hi ⟨c1,rfl,rfl,ha,s1⟩
      refine⟨av.of (s1 _ _ hpa),ha,bE ?_⟩
      rw [GO,Hm]
      omega
    . rintro i x ys GL H1 hx' ⟨c1,rfl,rfl,ha,s1⟩
      obtain⟨c0,hc0,hpv⟩:=L2.fN hpp hx'
      obtain⟨oq,ou,rfl,hoq,hou⟩:=hpv.aK fun p zs e=>s1 _ _ e
      refine cY ?_
      refine gK ?_
      refine bL ?_
      have fin:∀b,b=jo ps.length c0->H1 acc=some (.lst ((paper.take i).map fun c=>V.bl (jo ps.length c)))/\∃c1',[some (V.ref oq),some (.ref pp)]=[c1',some (.ref pp)]/\(paper.take i).map (fun c=>V.bl (jo ps.length c))++[V.bl b]=(paper.take (i+1)).map (fun c=>V.bl (jo ps.length c))/\(upd H1 acc (.lst ((paper.take i).map (fun c=>V.bl (jo ps.length c))++[V.bl b]))) acc=some (.lst ((paper.take i).map (fun c=>V.bl (jo ps.length c))++[V.bl b]))/\ao H (upd H1 acc (.lst ((paper.take i).map (fun c=>V.bl (jo ps.length c))++[V.bl b]))):=fun b hb=>by
        refine⟨ha,_,rfl,?_,af,s1.put na⟩
        rw [take1 hc0,G3,hb]
        rfl
      refine⟨_,rfl,oq,_,0,_,rfl,rfl,av.of hoq,bW,_,_,rfl,rfl,_,rfl,?_⟩
      by_cases h0:0<=c0.1
      . refine cu (decide_eq_true h0) ?_
        refine⟨_,rfl,pp,_,rfl,.inr (av.of (s1 _ _ e1)),_,_,rfl,rfl,?_⟩
        refine fin _ ?_
        unfold jo
        rw [decide_eq_true h0,hvl]
        rfl
      . refine bc (decide_eq_false h0) ?_
        refine fin _ ?_
        unfold jo
        rw [decide_eq_false h0]
        rfl
    rintro ys GL H1 ⟨c1,rfl,rfl,ha,s1⟩
    rw [hul,Hr] at ha
    refine⟨acc,paper.map (jo ps.length),rfl,aU.of (by rw [Ii];exact ha),_,rfl,?_⟩
    by_cases hall:∀c∈paper,0<=c.1/\c.1<ps.length
    case neg =>
      have hb:(paper.map (jo ps.length)).all id=false:=by
        rw [Jj]
        intro z
        refine hall fun c hc=>xk.mp ?_
        rw [HC] at z
        exact z _ (G4.mpr ⟨c,hc,rfl⟩)
      refine cu (by rw [hb];rfl) ?_
      exact q false H1 ⟨(fun h=>nomatch h),fun h=>absurd h.Cu hall⟩ s1
    have hb:(paper.map (jo ps.length)).all id=true:=by
      rw [HC]
      intro b hb
      obtain⟨c,hc,rfl⟩:=G4.mp hb
      exact xk.mpr (hall c hc)
    refine bc (by rw [hb];rfl) ?_
    clear ha hb na
    have hc0:paper[0]?=some paper[0]:=by simp [hn0]
    have hcm0:=HK hn0
    generalize paper[0]=c0 at hc0 hcm0
    obtain⟨ov,hov,hpv⟩:=gi (hpp.same s1) hc0
    obtain⟨oq,ou,rfl,hoq,hou⟩:=hpv
    have hpa1:=s1 _ _ hpa
    refine⟨_,rfl,pa,_,0,_,rfl,rfl,av.of hpa1,bA (j:=0) hov,oq,_,0,_,rfl,rfl,av.of hoq,bW,rfl,_,rfl,?_⟩
    by_cases hz:c0.1=0
    case neg =>
      refine cu (by rw [decide_eq_false fun z=>hz (by injection z)];rfl) (bL ?_)
      refine q false H1 ⟨(fun h=>nomatch h),fun h=>?_⟩ s1
      obtain⟨c',h1,h2,_⟩:=h.first
      rw [hc0] at h1
      cases h1
      exact absurd h2 hz
    refine bc (by rw [hz,decide_eq_true rfl];rfl) ?_
    refine⟨_,rfl,pa,_,0,_,rfl,rfl,av.of hpa1,bA (j:=0) hov,oq,_,1,_,rfl,rfl,av.of hoq,cR,fun d nd=>⟨ou,d,[],fun _=>0,c0.2,rfl,FV.same hou (ao.new nd),af,(fun x=>rfl),bB c0 hcm0,fun b H2 hb s2=>?_⟩⟩
    have s12:=(ao.new (o:=.dK []) nd).trans s2
    have s02:=s1.trans s12
    refine⟨_,rfl,?_⟩
    cases b with
    | false =>
      refine bL ?_
      refine q false H2 ⟨(fun h=>nomatch h),fun h=>?_⟩ s02
      obtain⟨c',h1,h2,h3⟩:=h.first
      rw [hc0] at h1
      cases h1
      exact hb.mpr h3
    | true =>
      refine bO ?_
      have hsnd:=hb.mp rfl
      have hpa2:=s02 _ _ hpa
      have e12:=s02 _ _ e1
      have e1q2:=s02 _ _ e1q
      have hpp2:=hpp.same s02
      refine⟨_,rfl,_,rfl,pa,qp,rfl,⟨_,av.of hpa2⟩,⟨_,av.of e1q2⟩,fun acc na=>?_⟩
      refine uu (K:=K) (a:=pa) (b:=qp) (xs:=us) (ys:=ws) (fun i zs GL H'=>∃(c1 c2:Option V) (bs:List Bool),GL=[c1,c2,some (.ref pa),some (.ref pp)]/\zs=bs.map V.bl/\bs.length=i/\H' acc=some (.lst zs)/\(∀(k:Nat) (b:Bool) (c:Pp) (p p':Piece),bs[k]?=some b->paper[k]?=some c->ps[c.1.toNat]?=some p->qs[k]?=some p'->(b=true↔(p.1=p'.1/\jF paper (cw c.2 p.1) p.2 p'.2)))/\ao H2 H') ?_ ?_ ?_ ?_
      . exact⟨none,none,[],rfl,rfl,rfl,af,(fun k b c p p' h=>by simp at h),ao.new na⟩
      . rintro i zs GL H3 hi ⟨c1,c2,bs,rfl,rfl,g1,g2,g3,g4⟩
        exact⟨av.of (g4 _ _ hpa2),av.of (g4 _ _ e1q2),g2,bE (by rw [GO];omega)⟩
      . rintro i x y zs GL H3 t hx' hy ht ⟨c1,c2,bs,rfl,rfl,g1,g2,g3,g4⟩
        obtain⟨c,hc,hpv⟩:=L2.fN hpp2 hx'
        have hcm:=G9 hc
        have hcin:=hall c hcm
        have hil:i<qs.length:=by have:=(G7.mp hy).1;omega
        have hqi:qs[i]?=some qs[i]:=by simp [hil]
        generalize qs[i]=qpc at hqi
        obtain⟨ds',f'⟩:=qpc
        have hpl:c.1.toNat<ps.length:=by omega
        have hpi:ps[c.1.toNat]?=some ps[c.1.toNat]:=by simp [hpl]
        generalize ps[c.1.toNat]=ppc at hpi
        obtain⟨ds,e'⟩:=ppc
        obtain⟨p',xs',pc,da,ea,wsd,ep,e1',el',hxp,e2,e3,r3,e4⟩:=fK hp hpi
        cases ep
        rw [e1] at e1'
        cases e1'
        obtain⟨p',xs',qc,da',ea',wsd',ep,e1',el',hxq,e2q,e3q,r3q,e4q⟩:=fK hq hqi
        cases ep
        rw [e1q] at e1'
        cases e1'
        rw [hy] at hxq
        cases hxq
        have s4:=ao.new (o:=.tup [x,.ref qc]) ht
        refine⟨t,_,rfl,av.of af,rfl,_,_,rfl,_,_,rfl,rfl,?_⟩
        generalize (upd H3 t (.tup [x,.ref qc]))=H4 at s4 ⊢
        have s24:=g4.trans s4
        have s04:=s02.trans s24
        have hpv4:=hpv.aK fun p zs e=>s24 _ _ e
        obtain⟨oq,ou,ex,hoq,hou⟩:=id hpv4
        subst ex
        change ∃v,_/\_
        refine⟨_,rfl,_,rfl,_,rfl,oq,_,0,_,rfl,rfl,av.of hoq,bW,pp,_,_,_,rfl,rfl,av.of (s04 _ _ e1),(show eV vs c.1=some (V.ref pc) by rw [show c.1=((c.1.toNat:Nat):Int) by omega];exact bA hxp),_,rfl,_,rfl,?_⟩
        have hmp:=G9 hpi
        have hmq:=G9 hqi
        refine⟨_,pc,qc,pa,da,ea,da',ea',wsd,wsd',us,c,ds,ds',e',f',paper,xs,rfl,hpv4,s04 _ _ e2,s04 _ _ e3,r3.same s04 (bH ds),s04 _ _ e4,s04 _ _ e2q,s04 _ _ e3q,r3q.same s04 (bH ds'),s04 _ _ e4q,s04 _ _ hpa,hpp.same s04,mP c hcm,(pok.fk _ hmp).2,GY (pok.fk _ hmp).1 hm12,hx,(layp _ hmp).1,(layq _ hmq).1,(layp _ hmp).2,(layq _ hmq).2,(fun w hw=>by rw [hlen'];exact rF qin hmq hw),bB,fun b H5 hb5 s5=>?_⟩
        refine⟨s5 _ _ (s4 _ _ g2),_,_,bs++[b],rfl,(by rw [G3];rfl),(by rw [GW,g1];rfl),af,fun k b' c' p p' h1 h2 h3 h4=>?_,(s24.trans s5).put na⟩
        by_cases hk:k=i
        . subst hk
          rw [IF (by omega),g1,Nat.sub_self] at h1
          cases h1
          rw [hc] at h2
          cases h2
          rw [hpi] at h3
          cases h3
          rw [hqi] at h4
          cases h4
          exact hb5
        . have hkl:k<bs.length:=by
            have:=(G7.mp h1).1
            rw [GW] at this
            simp at this
            omega
          rw [HY hkl] at h1
          exact g3 k b' c' p p' h1 h2 h3 h4
      . rintro zs GL H3 ⟨c1,c2,bs,rfl,rfl,g1,g2,g3,g4⟩
        refine⟨acc,bs,rfl,aU.of g2,?_⟩
        have hbl:bs.length=paper.length:=by omega
        refine q _ H3 ⟨fun hb=>⟨hlen',hall,⟨c0,hc0,hz,hsnd⟩,fun k c p p' h1 h2 h3=>?_⟩,fun hP=>?_⟩ (s02.trans g4)
        . have hk:k<bs.length:=by rw [hbl];exact (G7.mp h1).1
          have hbk:bs[k]?=some bs[k]:=by simp [hk]
          rw [HC] at hb
          exact (g3 k _ c p p' hbk h1 h2 h3).mp (hb _ (HK hk))
        . rw [HC]
          intro b hb
          obtain⟨k,hk⟩:=List.getElem?_of_mem hb
          have hkl:k<paper.length:=by rw [<-hbl];exact (G7.mp hk).1
          have h1:paper[k]?=some paper[k]:=by simp [hkl]
          have hcin:=hall _ (HK hkl)
          generalize paper[k]=c at h1 hcin
          have hpl:c.1.toNat<ps.length:=by omega
          have h2:ps[c.1.toNat]?=some ps[c.1.toNat]:=by simp [hpl]
          have h3:qs[k]?=some (qs[k]'(by omega)):=by simp [show k<qs.length by omega]
          exact (g3 k b c _ _ hk h1 h2 h3).mpr (hP.all k c _ _ h1 h2 h3)
theorem yu {f:Addr} {fd:FuncData} (F:b0 K "_law_bag" "_law_bag" m3 f fd) (Z:Bl mg)  : bp P w K mg base bT 1 f fd ["script", "k"] (Cc K):=by
 refine F.ok (k:=0) kZ (fun vs H Q E h=>?_) (fun cdv A outer s H vs Q E hr h=>?_)
 ·obtain⟨a,ns,k,rfl,_⟩:=h
  rfl
 ·obtain⟨a,ns,k,rfl,hS,hk,q⟩:=h
  refine⟨_,(ai (aL (i:=2) kZ.nd rfl (GN rfl) ah)
   (ai (aZ (aF gH (pv 1) (aQ aO rfl Z.len bJ (aa (pv 0) ae)) (aJ _))
   (ar (aL (i:=2) kZ.nd rfl (GN rfl) (ba i6 (aI bY (pv 0) (pv 1) (fun _ _=>rfl)) (ba CO (ba lV ah ah) (ba lV ah ah)))))
   aP)
   (ai (aZ (aF gH (pv 2) (ba lV ah ah) (aJ _))
   (ar (aH (cX (aa ah (aa (ba cH ah (ba i6 (ba cH (ba iy (pv 2) ah) (ba iy ah (pv 1))) ah)) ae)))))
   aP)
   (ar (aH (cX (aa (pv 2) (aa (ba cH ah (ba i6 (ba cH (pv 2) (pv 1)) ah)) ae)))))))),?_⟩
  refine⟨_,rfl,_,rfl,_,_,rfl,.inl hS,_,_,rfl,rfl,_,rfl,?_⟩
  refine cB (fun hc=>?_) (fun hc=>?_)
  ·have hl:k<((ns.map V.int).length:Nat):=of_decide_eq_true hc
   obtain⟨v,hv,hm⟩:=xM hk hl
   obtain⟨z,_,rfl⟩:=G4.mp hm
   refine⟨_,rfl,_,rfl,_,_,_,_,rfl,rfl,hS,hv,10,60,rfl,rfl,⟨by decide,by decide,by decide⟩,10,60,rfl,rfl,⟨by decide,by decide,by decide⟩,_,_,rfl,rfl,(by unfold IntMulOk;decide +kernel),_,_,rfl,rfl,(show (0:Int)<10 ^ (60:Int).toNat*10 ^ (60:Int).toNat by decide +kernel),?_⟩
   refine⟨_,rfl,10,18,rfl,rfl,⟨by decide,by decide,by decide⟩,_,_,rfl,rfl,_,rfl,?_⟩
   refine cB (fun hd=>?_) (fun hd=>?_)
   ·refine⟨_,rfl,_,_,rfl,rfl,.inr ⟨by decide,by decide⟩,_,rfl,_,_,rfl,rfl,.inl ⟨by decide,by decide⟩,_,_,rfl,rfl,_,_,rfl,rfl,(show (0:Int)<2147483646 by decide),_,_,rfl,rfl,ln2,fun p hp=>?_⟩
    exact q p _ hp ⟨_,_,af,by omega,by omega⟩ (ao.new hp)
   ·refine⟨_,rfl,_,rfl,_,rfl,_,_,rfl,rfl,_,_,rfl,rfl,(show (0:Int)<2147483646 by decide),_,_,rfl,rfl,ln2,fun p hp=>?_⟩
    exact q p _ hp ⟨_,_,af,by omega,by omega⟩ (ao.new hp)
  ·refine⟨_,rfl,10,18,rfl,rfl,⟨by decide,by decide,by decide⟩,_,_,rfl,rfl,_,rfl,?_⟩
   refine cB (fun hd=>?_) (fun hd=>?_)
   ·refine⟨_,rfl,_,_,rfl,rfl,.inr ⟨by decide,by decide⟩,_,rfl,_,_,rfl,rfl,.inl ⟨by decide,by decide⟩,_,_,rfl,rfl,_,_,rfl,rfl,(show (0:Int)<2147483646 by decide),_,_,rfl,rfl,ln2,fun p hp=>?_⟩
    exact q p _ hp ⟨_,_,af,by omega,by omega⟩ (ao.new hp)
   ·refine⟨_,rfl,_,rfl,_,rfl,_,_,rfl,rfl,_,_,rfl,rfl,(show (0:Int)<2147483646 by decide),_,_,rfl,rfl,ln2,fun p hp=>?_⟩
    exact q p _ hp ⟨_,_,af,by omega,by omega⟩ (ao.new hp)
theorem vX {f:Addr} {fd:FuncData} (F:b0 K "_law_take" "_law_take" lg f fd) (Z:Bl mg)  : bp P w K mg base bT 1 f fd ["bag", "many"] eN:=by
 refine F.ok (k:=0) ox (fun vs H Q E h=>?_) (fun cdv A outer s H vs Q E hr h=>?_)
 ·obtain⟨b,m,rfl,_⟩:=h
  rfl
 ·obtain⟨b,m,rfl,⟨x,y,hb,h0,h1⟩,hm,q⟩:=h
  refine⟨_,(ai (aZ (aF nc (aI bY (pv 0) ah (fun _ _=>rfl)) ah (aJ _))
   (ai (aL (i:=2) ox.nd rfl (GN rfl) (ba i6 (aI bY (pv 0) ah (fun _ _=>rfl)) (pv 1)))
   (ai (cN (ba AA (aI bY (pv 0) ah (fun _ _=>rfl)) (pv 1)) (gG (pv 0) ah set_list))
   (ar (aH (pv 2)))))
   aP)
   (ai (cN (ba i6 (ba iy (aI bY (pv 0) ah (fun _ _=>rfl)) ah) ah) (gG (pv 0) ah set_list))
   (ar (aH (ba i6 (ba wo (ba i6 (ba iy (aI bY (pv 0) ah (fun _ _=>rfl)) (aI bY (pv 0) ah (fun _ _=>rfl))) ah) ah) (pv 1)))))),?_⟩
  refine⟨_,rfl,b,_,0,_,rfl,rfl,aU.of hb,bW,_,_,rfl,rfl,_,rfl,?_⟩
  refine cB (fun hc=>?_) (fun hc=>?_)
  ·refine⟨_,rfl,b,_,0,_,rfl,rfl,aU.of hb,bW,_,rfl,_,_,rfl,rfl,hm.1,?_⟩
   refine⟨_,rfl,b,_,0,_,rfl,rfl,aU.of hb,bW,_,rfl,_,_,rfl,rfl,hm,_,rfl,b,_,0,0,rfl,rfl,hb,rfl,?_⟩
   refine⟨_,rfl,?_⟩
   exact q _ _ (Int.emod_nonneg _ (by have:=hm.1;omega)) (Int.emod_lt_of_pos _ hm.1) ⟨_,_,af,h0,h1⟩ Fix.Cb
  ·refine⟨_,rfl,b,_,1,_,rfl,rfl,aU.of hb,cR,_,_,rfl,rfl,.inr ⟨by decide,by decide⟩,_,_,rfl,rfl,(show (0:Int)<2147483647 by decide),_,rfl,b,_,1,1,rfl,rfl,hb,rfl,?_⟩
   refine⟨_,rfl,b,_,1,_,rfl,rfl,aU.of af,cR,_,rfl,b,_,1,_,rfl,rfl,aU.of af,cR,_,_,rfl,rfl,.inl ⟨by omega,by omega⟩,_,_,rfl,rfl,(show (0:Int)<2147483629 by decide),_,_,rfl,rfl,⟨by decide,by decide⟩,_,rfl,_,_,rfl,rfl,hm.1,?_⟩
   exact q _ _ (Int.emod_nonneg _ (by have:=hm.1;omega)) (Int.emod_lt_of_pos _ hm.1) ⟨_,_,af,by omega,by omega⟩ Fix.Cb
theorem vx {f:Addr} {fd:FuncData} (F:b0 K "_law_names" "_law_names" jR f fd) (Z:Bl mg) (O_law_take:Own P w K mg base "_law_take" 1 ["bag", "many"] eN):bp P w K mg base bT 2 f fd ["bag"] wH:=by
  refine F.ok (k:=1) dQ (fun vs H Q E h=>?_) (fun cdv A outer s H vs Q E hr h=>?_)
  . obtain⟨b,rfl,_⟩:=h
    rfl
  . obtain⟨b,rfl,hB,q⟩:=h
    refine⟨_,(ai (aL (i:=1) dQ.nd rfl (G6 rfl) bh)
      (ai (aL (i:=2) dQ.nd rfl (GN rfl) (ba cH ah (aw O_law_take (hr.mono (by decide)) rfl (aa (pv 0) (aa ah ae)))))
      (ai (oE (i:=3) ["k"] ["letters", "bag"] [1,0] rfl dQ.nd rfl rfl rfl (eJ rfl Z.range (aa (ba cH ah (aw O_law_take (hr.mono (by decide)) rfl (aa (pv 0) (aa ah ae)))) ae)) rfl (by decide +kernel) (by decide +kernel) (by decide +kernel) ⟨⟨rfl,.inl rfl,rfl⟩,⟨⟨rfl,.inl rfl,rfl⟩,True.intro⟩⟩ (fun _ _ _ _=>(aB (i:=0) (show ((["k"]:List Str)++(["letters", "bag"]:List Str)).Nodup by decide +kernel) rfl (GN rfl) (hf:=G6 rfl))) (fun _ _ _ _=>dI) (fun _ _ _ _=>(aI yM (pv 1) (aw O_law_take (hr.mono (by decide)) rfl (aa (pv 2) (aa ah ae))) (fun _ _=>rfl))))
      (ai (aL (i:=4) dQ.nd rfl (GN rfl) (aw O_law_take (hr.mono (by decide)) rfl (aa (pv 0) (aa (aQ aO rfl Z.len bJ (aa (pv 3) ae)) ae))))
      (ai (aL (i:=5) dQ.nd rfl (GN rfl) (cX ae))
      (ai (eM PassesOwn.never rfl (eJ rfl Z.range (aa (pv 2) ae)) (aB (i:=6) dQ.nd rfl (GN rfl))
      (ai (aL (i:=7) dQ.nd rfl (GN rfl) (br jb rfl Z.list qJ (aa (pv 3) ae)))
      (ai (cN (aI yM (pv 1) (aw O_law_take (hr.mono (by decide)) rfl (aa (pv 0) (aa ah ae))) (fun _ _=>rfl)) (gG (pv 7) (pv 4) set_list))
      (ar (aZ (aF uk (fU PySem.F.plainAttrs_str PySem.F.slot_str_join PySem.F.type_str_join wG bh (aa (pv 7) ae)) (pv 5) (by with_unfolding_all rfl))
      (ar (dH (fU PySem.F.plainAttrs_list PySem.F.slot_list_append PySem.F.type_list_append fi (pv 5) (aa (fU PySem.F.plainAttrs_str PySem.F.slot_str_join PySem.F.type_str_join wG bh (aa (pv 7) ae)) ae))))
      aP)))))
      (ar (aH (pv 5))))))))),?_⟩
    refine⟨_,rfl,b,4,rfl,hB,⟨by decide,by decide +kernel⟩,fun m H1 m0 m1 B1 X1=>⟨_,_,rfl,rfl,?_⟩⟩
    refine⟨_,rfl,b,8,rfl,B1,⟨by decide,by decide +kernel⟩,fun k H2 k0 k1 B2 X2=>⟨_,_,rfl,rfl,_,rfl,(by omega),(by omega),fun acc na=>?_⟩⟩
    refine ko (lo:=0) (fun i ys GL H'=>∃(v:Option V) (cs:List Nat),GL=[v,some (.str pF),some (.ref b)]/\ys=(cs.map one).map V.str/\cs.length=i/\(∀c∈cs,97<=c/\c<=122)/\H' acc=some (.lst ys)/\bU H' b/\Fix b H2 H') ?_ ?_ ?_ ?_
    . exact⟨none,[],rfl,rfl,rfl,(fun _ h=>nomatch h),af,B2.new na,Fix.new na⟩
    . rintro i ys GL H' hi ⟨v,cs,rfl,rfl,hl,_,ha,_⟩
      refine⟨ha,?_⟩
      rw [GO,GO]
      exact bE (by omega)
    . rintro i ys GL H' hi ⟨v,cs,rfl,rfl,hl,hc,ha,B',X'⟩
      refine cY ?_
      refine gK ?_
      refine bL ?_
      refine⟨_,rfl,_,rfl,b,26,rfl,B',⟨by decide,by decide +kernel⟩,fun r H3 r0 r1 B3 X3=>?_⟩
      obtain⟨c,hat,c0,c1⟩:=y4 r0 r1
      have hab:acc≠b:=B2.du na
      have ha3:=X3 acc _ ha hab
      refine⟨pF,r,c,rfl,rfl,wJ,hat,ha3,_,cs++[c],rfl,?_,?_,?_,af,?_,?_⟩
      . rw [G3,G3];rfl
      . rw [GW,hl];rfl
      . intro d hd
        rcases Hd.mp hd with hd | hd
        . exact hc d hd
        . rw [GR.mp hd];exact⟨c0,c1⟩
      . obtain⟨x,y,e,z⟩:=B3
        exact⟨x,y,by rw [au hab.symm];exact e,z⟩
      . intro d o hd nd
        rw [au (aG hd na)]
        exact (X'.trans X3) d o hd nd
    . rintro ys GL H3 ⟨v,cs,rfl,rfl,hl,hc,ha,B3,X3⟩
      have hab:acc≠b:=B2.du na
      have hl1:1<=cs.length:=by omega
      have hl8:cs.length<=8:=by omega
      have F3:Fix b H H3:=(X1.trans X2).trans X3
      have el:(((cs.map one).map V.str).length:Int)=cs.length:=by simp
      refine⟨_,rfl,_,rfl,acc,_,rfl,.inl (aU.of ha),b,_,rfl,B3,⟨by omega,dh (by omega) (by omega)⟩,fun at_ H4 t0 t1 B4 X4=>?_⟩
      refine⟨(by show 0<=sizeLine;decide),fun nl nn=>?_⟩
      have hnb:nl≠b:=B4.du nn
      have ha4:H4 acc=some (.lst ((cs.map one).map V.str)):=X4 acc _ ha hab
      have hna:nl≠acc:=fun z=>by rw [z,ha4] at nn;cases nn
      have F4:Fix b H H4:=F3.trans X4
      refine⟨_,rfl,_,rfl,(by omega),(by omega),ix (lo:=0) (fun i GK H'=>∃(u1 u2:Option V) (xs:List Str),GK=[some (.ref b),some (.str pF),some (.int (1+m)),some (.ref acc),some (.int at_),some (.ref nl),u1,u2] /\
        H' nl=some (.lst (xs.map V.str))/\xs.length<=i/\(0<i->xs≠[])/\(∀x∈xs,eO x)/\H' acc=some (.lst ((cs.map one).map V.str))/\bU H' b/\Fix b H H') ?_ ?_ ?_⟩
      . exact⟨_,_,[],rfl,af,GQ _,(fun h=>absurd h (Hf _)),(fun _ h=>nomatch h),(by rw [au hna.symm];exact ha4),B4.new nn,F4.trans (Fix.new nn)⟩
      . rintro i GK H' hi ⟨u1,u2,xs,rfl,hn,hx,hx0,aW,ha',B',X'⟩
        refine⟨_,rfl,acc,_,rfl,.inl (aU.of ha'),fun nm mm=>?_⟩
        have nmb:nm≠b:=B'.du mm
        have nma:nm≠acc:=fun z=>by rw [z,ha'] at mm;cases mm
        have nmn:nm≠nl:=fun z=>by rw [z,hn] at mm;cases mm
        refine⟨_,rfl,_,rfl,b,26,rfl,B'.new mm,⟨by decide,by decide +kernel⟩,fun r H5 r0 r1 B5 X5=>?_⟩
        obtain⟨c,hat,c0,c1⟩:=y4 r0 r1
        have h5:H5 nm=some (.lst ((cs.map one).map V.str)):=X5 nm _ af nmb
        have hn5:H5 nl=some (.lst (xs.map V.str)):=X5 nl _ (by rw [au nmn.symm];exact hn) hnb
        have ha5:H5 acc=some (.lst ((cs.map one).map V.str)):=X5 acc _ (by rw [au nma.symm];exact ha') hab
        obtain⟨j,rfl⟩:∃j:Nat,at_=j:=⟨at_.toNat,by omega⟩
        have hj:j<cs.length:=by omega
        have hix:me ((cs.map one).map V.str).length (j:Int)=some j:=by
          unfold me
          rw [if_pos (by omega),if_pos (by rw [el];omega)]
          simp
        refine⟨pF,r,c,rfl,rfl,wJ,hat,_,rfl,_,rfl,nm,_,(j:Int),j,rfl,rfl,h5,hix,?_⟩
        have eset:((cs.map one).map V.str).set j (.str ⟨#[c]⟩)=((cs.set j c).map one).map V.str:=by
          rw [List.map_set,List.map_set];rfl
        rw [eset]
        have hc':∀d∈cs.set j c,97<=d/\d<=122:=fun d hd=>by
          rcases IQ hd with hd | hd
          . exact hc d hd
          . rw [hd];exact⟨c0,c1⟩
        have hjl:(((cs.set j c).map one).map (·.length)).sum+((cs.set j c).map one).length*(Str.ofString "").length<=16777216:=by
          have e1:(Str.ofString "").length=0:=by decide +kernel
          have e2:∀l:List Nat,((l.map one).map (·.length)).sum=l.length:=by
            intro l
            induction l with
            | nil=>rfl
            | cons a l ih=>simp only [Hh,List.sum_cons,ih,Hq];show 1+l.length=_;omega
          rw [e1,e2,Ia]
          omega
        have nk:eO (Txt.join (Str.ofString "") ((cs.set j c).map one)):=by
          rw [AE]
          have ej:=L2.join_ones (cs.set j c)
          have eL:(Txt.join Str.empty ((cs.set j c).map one)).length=(cs.set j c).length:=by
            have:=congrArg HI ej
            rw [Hw] at this
            exact this
          refine⟨?_,?_,?_⟩
          . rw [eL,Ia];exact hl1
          . rw [eL,Ia];exact hl8
          . rw [ej];exact hc'
        have n6:upd H5 nm (.lst (((cs.set j c).map one).map V.str)) nl=some (.lst (xs.map V.str)):=by rw [au nmn.symm];exact hn5
        have a6:upd H5 nm (.lst (((cs.set j c).map one).map V.str)) acc=some (.lst ((cs.map one).map V.str)):=by rw [au nma.symm];exact ha5
        have B6:bU (upd H5 nm (.lst (((cs.set j c).map one).map V.str))) b:=by
          obtain⟨x,y,e,z⟩:=B5
          exact⟨x,y,by rw [au nmb.symm];exact e,z⟩
        have F6:Fix b H (upd H5 nm (.lst (((cs.set j c).map one).map V.str))):=fun d o hd nd=>by
          have h1:=X' d o hd nd
          have nd':d≠nm:=fun z=>by rw [z,mm] at h1;cases h1
          rw [au nd']
          exact X5 d o (by rw [au nd'];exact h1) nd
        have flat:(xs.map V.str).all il=true:=by
          rw [HC]
          intro v hv
          obtain⟨x,_,rfl⟩:=G4.mp hv
          rfl
        refine⟨rfl,_,rfl,_,nm,_,rfl,rfl,aU.of af,hjl,_,rfl,nl,_,rfl,.inl (aU.of n6),rfl,flat,_,rfl,?_⟩
        refine cB (fun hin=>?_) (fun hin=>?_)
        . refine⟨_,rfl,.inl ⟨rfl,_,aU.of n6⟩,rfl,_,rfl,_,nm,_,rfl,rfl,aU.of af,hjl,nl,_,_,rfl,rfl,n6,?_,?_⟩
          . rw [GO]
            have:i<4:=by omega
            exact bE (by omega)
          . refine⟨_,_,xs++[_],rfl,(by rw [af,G3];rfl),(by rw [GW];exact Ip hx),(fun _=>by simp),?_,(by rw [au hna.symm];exact a6),?_,?_⟩
            . intro x hxm
              rcases Hd.mp hxm with hxm | hxm
              . exact aW x hxm
              . rw [GR.mp hxm];exact nk
            . obtain⟨x,y,e,z⟩:=B6
              exact⟨x,y,by rw [au hnb.symm];exact e,z⟩
            . intro d o hd nd
              have h1:=F6 d o hd nd
              have nd':d≠nl:=fun z=>by
                have h2:=F4 d o hd nd
                rw [z,nn] at h2
                cases h2
              rw [au nd']
              exact h1
        . have hx':xs≠[]:=by
            intro e
            subst e
            exact hin rfl
          exact⟨_,_,xs,rfl,n6,Hl hx,fun _=>hx',aW,a6,B6,F6⟩
      . rintro GK H' ⟨u1,u2,xs,rfl,hn,hx,hx0,aW,ha',B',X'⟩
        refine⟨_,rfl,?_⟩
        have hm:(1+m).toNat<=4:=by omega
        have hm0:0<(1+m).toNat:=by omega
        exact q nl xs H' ⟨hn,hnb,hx0 hm0,by omega,aW⟩ (GY hx hm) B' X'
theorem tP {f:Addr} {fd:FuncData} (F:b0 K "_law_number" "_law_number" ju f fd) (Z:Bl mg) (O_law_take:Own P w K mg base "_law_take" 1 ["bag", "many"] eN):bp P w K mg base bT 2 f fd ["bag"] ky:=by
  refine F.ok (k:=1) tM (fun vs H Q E h=>?_) (fun cdv A outer s H vs Q E hr h=>?_)
  . obtain⟨b,rfl,_⟩:=h
    rfl
  . obtain⟨b,rfl,hB,q⟩:=h
    refine⟨_,(ai (aZ (aF bw (aw O_law_take (hr.mono (by decide)) rfl (aa (pv 0) (aa ah ae))) ah (aJ _))
      (ar (aH (ba iy (ba fb (ba fb (ba lV ah ah) ah) (aw O_law_take (hr.mono (by decide)) rfl (aa (pv 0) (aa ah ae)))) (ba fb ah (ba iy ah (aw O_law_take (hr.mono (by decide)) rfl (aa (pv 0) (aa ah ae))))))))
      aP)
      (ar (aH (ba fb (aw O_law_take (hr.mono (by decide)) rfl (aa (pv 0) (aa ah ae))) ah)))),?_⟩
    refine⟨_,rfl,b,8,rfl,hB,⟨by decide,by decide +kernel⟩,fun r H1 r0 r1 B1 X1=>⟨rfl,_,rfl,?_⟩⟩
    refine cB (fun hc=>?_) (fun hc=>?_)
    . refine⟨10,40,rfl,rfl,⟨by decide,by decide,by decide⟩,_,_,rfl,rfl,?_⟩
      refine⟨_,rfl,b,3,rfl,B1,⟨by decide,by decide +kernel⟩,fun r2 H2 r20 r21 B2 X2=>⟨_,_,rfl,rfl,?_⟩⟩
      refine⟨_,rfl,b,2,rfl,B2,⟨by decide,by decide +kernel⟩,fun r3 H3 r30 r31 B3 X3=>?_⟩
      refine⟨_,_,rfl,rfl,.inl ⟨by decide,by decide⟩,_,_,rfl,rfl,_,_,rfl,rfl,.inr ⟨by omega,by omega⟩,?_⟩
      refine q _ H3 ?_ B3 ((X1.trans X2).trans X3)
      have e:(10:Int) ^ (40:Int).toNat=10 ^ 40:=by decide +kernel
      rw [e]
      obtain rfl | rfl:r3=0\/r3=1:=by omega
      . rw [show (1:Int)-2*0=1 by decide,Int.mul_one];unfold kq;omega
      . rw [show (1:Int)-2*1 = -1 by decide,Int.mul_neg,Int.mul_one];unfold kq;omega
    . refine⟨_,rfl,b,8,rfl,B1,⟨by decide,by decide +kernel⟩,fun r2 H2 r20 r21 B2 X2=>⟨_,_,rfl,rfl,?_⟩⟩
      exact q _ H2 (by unfold kq;omega) B2 (X1.trans X2)
theorem vY {f:Addr} {fd:FuncData} (F:b0 K "_law_deed" "_law_deed" lh f fd) (Z:Bl mg) (O_law_take:Own P w K mg base "_law_take" 1 ["bag", "many"] eN) (O_law_number:Own P w K mg base "_law_number" 2 ["bag"] ky):bp P w K mg base bT 3 f fd ["bag", "names"] yY:=by
  refine F.ok (k:=2) jS (fun vs H Q E h=>?_) (fun cdv A outer s H vs Q E hr h=>?_)
  . obtain⟨b,l,xs,rfl,_⟩:=h
    rfl
  . obtain⟨b,l,xs,rfl,hB,hN,q⟩:=h
    refine⟨_,(ai (aL (i:=2) jS.nd rfl (GN rfl) (aI bY (cX (h9 bh bh bh bh bh bh bh)) (aw O_law_take (hr.mono (by decide)) rfl (aa (pv 0) (aa ah ae))) (fun _ _=>rfl)))
      (ai (aL (i:=3) jS.nd rfl (GN rfl) (aI bY (pv 1) (aw O_law_take (hr.mono (by decide)) rfl (aa (pv 0) (aa (aQ aO rfl Z.len bJ (aa (pv 1) ae)) ae))) (fun _ _=>rfl)))
      (ai (aZ (aF bw (pv 2) bh (aJ _))
      (ar (aH (aV (aa (pv 2) (aa (pv 3) (aa (aI bY (pv 1) (aw O_law_take (hr.mono (by decide)) rfl (aa (pv 0) (aa (aQ aO rfl Z.len bJ (aa (pv 1) ae)) ae))) (fun _ _=>rfl)) ae))))))
      aP)
      (ai (aZ (PW.pt (m7 (aF bw (pv 2) bh (aJ _)) (j0 (aF bw (pv 2) bh (aJ _)))))
      (ar (aH (aV (aa (pv 2) (aa (pv 3) (aa (aw O_law_number (hr.mono (by decide)) rfl (aa (pv 0) ae)) ae))))))
      aP)
      (ar (aH (aV (aa (pv 2) (aa (pv 3) ae))))))))),?_⟩
    refine⟨mi,fun l0 m0=>?_⟩
    refine⟨_,rfl,b,7,rfl,hB.new m0,⟨by decide,by decide +kernel⟩,fun r H1 r0 r1 B1 X1=>?_⟩
    have h0:H1 l0=some (.lst [.str "put",.str "copy",.str "add",.str "read",.str "tell",.str "tell",.str "add"]):=X1 l0 _ af (hB.du m0)
    have F1:Fix b H H1:=(Fix.new m0).trans X1
    have N1:=hN.fix F1
    have hw:∃w:Str,(w = "put" \/ w = "copy" \/ w = "add" \/ w = "read" \/ w = "tell")/\eV [V.str "put",.str "copy",.str "add",.str "read",.str "tell",.str "tell",.str "add"] r=some (V.str w):=by
      obtain rfl | rfl | rfl | rfl | rfl | rfl | rfl:r=0\/r=1\/r=2\/r=3\/r=4\/r=5\/r=6:=by omega
      . exact⟨_,.inl rfl,bA (j:=0) rfl⟩
      . exact⟨_,.inr (.inl rfl),bA (j:=1) rfl⟩
      . exact⟨_,.inr (.inr (.inl rfl)),bA (j:=2) rfl⟩
      . exact⟨_,.inr (.inr (.inr (.inl rfl))),bA (j:=3) rfl⟩
      . exact⟨_,.inr (.inr (.inr (.inr rfl))),bA (j:=4) rfl⟩
      . exact⟨_,.inr (.inr (.inr (.inr rfl))),bA (j:=5) rfl⟩
      . exact⟨_,.inr (.inr (.inl rfl)),bA (j:=6) rfl⟩
    obtain⟨w,hw,hat⟩:=hw
    refine⟨l0,_,r,_,rfl,rfl,aU.of h0,hat,?_⟩
    obtain⟨p0,p1⟩:=N1.pos
    refine⟨_,rfl,_,rfl,_,rfl,l,_,rfl,.inl (aU.of N1.at_),b,_,rfl,B1,⟨p0,dh p0 p1⟩,fun r2 H2 r20 r21 B2 X2=>?_⟩
    have N2:=N1.fix X2
    obtain⟨x,hx,hxm⟩:=kA r20 r21
    refine⟨l,_,r2,_,rfl,rfl,aU.of N2.at_,hx,?_⟩
    refine⟨_,rfl,rfl,_,rfl,?_⟩
    rcases hw with rfl | rfl | rfl | rfl | rfl
    ·
      rw [show decide (V.str "put" = V.str "copy")=false by decide +kernel]
      refine bO ⟨_,rfl,rfl,_,rfl,?_⟩
      rw [show decide (V.str "put" = V.str "put")=true by decide +kernel]
      refine bL (bL ⟨_,rfl,_,rfl,_,rfl,b,rfl,B2,fun n H3 nk B3 X3=>⟨si,fun t mt=>?_⟩⟩)
      exact q _ (.put x n) _ (.tup af (.cons (.str _) (.cons (.str _) (.cons (.int _) .nil)))) ⟨hxm,nk⟩ (B3.new mt) (((F1.trans X2).trans X3).trans (Fix.new mt))
    ·
      rw [show decide (V.str "copy" = V.str "copy")=true by decide +kernel]
      obtain⟨p0,p1⟩:=N2.pos
      refine bL ⟨_,rfl,_,rfl,_,rfl,_,rfl,_,rfl,l,_,rfl,.inl (aU.of N2.at_),b,_,rfl,B2,⟨p0,dh p0 p1⟩,fun r3 H3 r30 r31 B3 X3=>?_⟩
      have N3:=N2.fix X3
      obtain⟨y,hy,hym⟩:=kA r30 r31
      refine⟨l,_,r3,_,rfl,rfl,aU.of N3.at_,hy,si,fun t mt=>?_⟩
      exact q _ (.copy x y) _ (.tup af (.cons (.str _) (.cons (.str _) (.cons (.str _) .nil)))) ⟨hxm,hym⟩ (B3.new mt) (((F1.trans X2).trans X3).trans (Fix.new mt))
    ·
      rw [show decide (V.str "add" = V.str "copy")=false by decide +kernel]
      refine bO ⟨_,rfl,rfl,_,rfl,?_⟩
      rw [show decide (V.str "add" = V.str "put")=false by decide +kernel]
      refine bO ⟨_,rfl,rfl,_,rfl,?_⟩
      rw [show decide (V.str "add" = V.str "add")=true by decide +kernel]
      refine bL ⟨_,rfl,_,rfl,_,rfl,b,rfl,B2,fun n H3 nk B3 X3=>⟨si,fun t mt=>?_⟩⟩
      exact q _ (.add x n) _ (.tup af (.cons (.str _) (.cons (.str _) (.cons (.int _) .nil)))) ⟨hxm,nk⟩ (B3.new mt) (((F1.trans X2).trans X3).trans (Fix.new mt))
    ·
      rw [show decide (V.str "read" = V.str "copy")=false by decide +kernel]
      refine bO ⟨_,rfl,rfl,_,rfl,?_⟩
      rw [show decide (V.str "read" = V.str "put")=false by decide +kernel]
      refine bO ⟨_,rfl,rfl,_,rfl,?_⟩
      rw [show decide (V.str "read" = V.str "add")=false by decide +kernel]
      refine bO ⟨_,rfl,_,rfl,ln2,fun t mt=>?_⟩
      exact q _ (.read x) _ (.tup af (.cons (.str _) (.cons (.str _) .nil))) hxm (B2.new mt) ((F1.trans X2).trans (Fix.new mt))
    ·
      rw [show decide (V.str "tell" = V.str "copy")=false by decide +kernel]
      refine bO ⟨_,rfl,rfl,_,rfl,?_⟩
      rw [show decide (V.str "tell" = V.str "put")=false by decide +kernel]
      refine bO ⟨_,rfl,rfl,_,rfl,?_⟩
      rw [show decide (V.str "tell" = V.str "add")=false by decide +kernel]
      refine bO ⟨_,rfl,_,rfl,ln2,fun t mt=>?_⟩
      exact q _ (.tell x) _ (.tup af (.cons (.str _) (.cons (.str _) .nil))) hxm (B2.new mt) ((F1.trans X2).trans (Fix.new mt))
theorem yw {f:Addr} {fd:FuncData} (F:b0 K "_law_end" "_law_end" m5 f fd) (Z:Bl mg) (O_law_take:Own P w K mg base "_law_take" 1 ["bag", "many"] eN) (O_law_number:Own P w K mg base "_law_number" 2 ["bag"] ky):bp P w K mg base bT 3 f fd ["bag", "names", "count"] yZ:=by
  refine F.ok (k:=2) iR (fun vs H Q E h=>?_) (fun cdv A outer s H vs Q E hr h=>?_)
  . obtain⟨b,l,xs,c,rfl,_⟩:=h
    rfl
  . obtain⟨b,l,xs,c,rfl,hB,hN,c0,c1,q⟩:=h
    refine⟨_,(ai (aL (i:=3) iR.nd rfl (GN rfl) (aw O_law_take (hr.mono (by decide)) rfl (aa (pv 0) (aa ah ae))))
      (ai (aZ (aF bw (pv 3) ah (aJ _))
      (ar (aH (aV (aa bh ae))))
      aP)
      (ai (aZ (aF gH (pv 3) ah (aJ _))
      (ar (aH (aV (aa bh (aa (aw O_law_take (hr.mono (by decide)) rfl (aa (pv 0) (aa (pv 2) ae))) ae)))))
      aP)
      (ai (aL (i:=4) iR.nd rfl (GN rfl) (aI bY (cX (aa bh (aa bh ae))) (ba wo (aw O_law_take (hr.mono (by decide)) rfl (aa (pv 0) (aa ah ae))) ah) (fun _ _=>rfl)))
      (ai (aL (i:=5) iR.nd rfl (GN rfl) (aI bY (pv 1) (aw O_law_take (hr.mono (by decide)) rfl (aa (pv 0) (aa (aQ aO rfl Z.len bJ (aa (pv 1) ae)) ae))) (fun _ _=>rfl)))
      (ar (aH (aV (aa (pv 4) (aa (pv 5) (aa (aw O_law_number (hr.mono (by decide)) rfl (aa (pv 0) ae)) (aa (aw O_law_take (hr.mono (by decide)) rfl (aa (pv 0) (aa (pv 2) ae))) (aa (aw O_law_take (hr.mono (by decide)) rfl (aa (pv 0) (aa (pv 2) ae))) ae))))))))))))),?_⟩
    have ck:(0:Int)<(c:Int)/\(c:Int).natAbs.log2<9000:=⟨by omega,dh (by omega) (by omega)⟩
    refine⟨_,rfl,b,9,rfl,hB,⟨by decide,by decide +kernel⟩,fun r H1 r0 r1 B1 X1=>?_⟩
    refine⟨_,rfl,rfl,_,rfl,?_⟩
    refine cB (fun hc=>?_) (fun hc=>?_)
    . refine⟨nS,fun t mt=>?_⟩
      exact q _ .stop _ (.tup af (.cons (.str _) .nil)) True.intro (B1.new mt) (X1.trans (Fix.new mt))
    refine⟨_,rfl,_,_,rfl,rfl,_,rfl,?_⟩
    refine cB (fun hd=>?_) (fun hd=>?_)
    . refine⟨_,rfl,_,rfl,b,_,rfl,B1,ck,fun p H2 p0 p1 B2 X2=>⟨ln2,fun t mt=>?_⟩⟩
      obtain⟨k,rfl⟩:∃k:Nat,p=k:=⟨p.toNat,by omega⟩
      exact q _ (.go k) _ (.tup af (.cons (.str _) (.cons (.int _) .nil))) (show k<c by omega) (B2.new mt) ((X1.trans X2).trans (Fix.new mt))
    . refine⟨ln2,fun l0 m0=>?_⟩
      refine⟨_,rfl,b,3,rfl,B1.new m0,⟨by decide,by decide +kernel⟩,fun z H2 z0 z1 B2 X2=>⟨_,_,rfl,rfl,⟨by decide,by decide⟩,?_⟩⟩
      have h0:H2 l0=some (.lst [.str "less",.str "is"]):=X2 l0 _ af (B1.du m0)
      have hw:∃w:Bool,eV [V.str "less",V.str "is"] (z / 2)=some (V.str (wT w)):=by
        obtain h | h:z / 2=0\/z / 2=1:=by omega
        . rw [h];exact⟨true,bW⟩
        . rw [h];exact⟨false,cR⟩
      obtain⟨w,hat⟩:=hw
      refine⟨l0,_,_,_,rfl,rfl,aU.of h0,hat,?_⟩
      have F2:Fix b H H2:=(X1.trans (Fix.new m0)).trans X2
      have N2:=hN.fix F2
      obtain⟨p0,p1⟩:=N2.pos
      refine⟨_,rfl,_,rfl,_,rfl,l,_,rfl,.inl (aU.of N2.at_),b,_,rfl,B2,⟨p0,dh p0 p1⟩,fun r3 H3 r30 r31 B3 X3=>?_⟩
      have N3:=N2.fix X3
      obtain⟨x,hx,hxm⟩:=kA r30 r31
      refine⟨l,_,r3,_,rfl,rfl,aU.of N3.at_,hx,?_⟩
      refine⟨_,rfl,_,rfl,_,rfl,b,rfl,B3,fun n H4 nk B4 X4=>?_⟩
      refine⟨_,rfl,_,rfl,b,_,rfl,B4,ck,fun p H5 p0 p1 B5 X5=>?_⟩
      refine⟨_,rfl,_,rfl,b,_,rfl,B5,ck,fun p' H6 p0' p1' B6 X6=>⟨Ec,fun t mt=>?_⟩⟩
      obtain⟨k,rfl⟩:∃k:Nat,p=k:=⟨p.toNat,by omega⟩
      obtain⟨k',rfl⟩:∃k:Nat,p' = k:=⟨p'.toNat,by omega⟩
      exact q _ (.bu w x n k k') _ (.tup af (.cons (.str _) (.cons (.str _) (.cons (.int _) (.cons (.int _) (.cons (.int _) .nil)))))) ⟨hxm,nk,by omega,by omega⟩ (B6.new mt) ((((F2.trans X3).trans X4).trans (X5.trans X6)).trans (Fix.new mt))
theorem vZ {f:Addr} {fd:FuncData} (F:b0 K "_law_plan" "_law_plan" lj f fd) (Z:Bl mg) (O_law_take:Own P w K mg base "_law_take" 1 ["bag", "many"] eN) (O_law_names:Own P w K mg base "_law_names" 2 ["bag"] wH) (O_law_deed:Own P w K mg base "_law_deed" 3 ["bag", "names"] yY) (O_law_end:Own P w K mg base "_law_end" 3 ["bag", "names", "count"] yZ):bp P w K mg base bT 4 f fd ["bag", "count", "most"] y3:=by
  refine F.ok (k:=3) fC (fun vs H Q E h=>?_) (fun cdv A outer s H vs Q E hr h=>?_)
  . obtain⟨b,c,m,rfl,_⟩:=h
    rfl
  . obtain⟨b,c,m,rfl,hB,c0,c1,hm,q⟩:=h
    refine⟨_,(ai (aL (i:=3) fC.nd rfl (G6 rfl) (aw O_law_names (hr.mono (by decide)) rfl (aa (pv 0) ae)))
      (ai (aL (i:=4) fC.nd rfl (GN rfl) (cX ae))
      (ai (eM PassesOwn.never rfl (eJ rfl Z.range (aa (pv 1) ae)) (aB (i:=5) fC.nd rfl (GN rfl))
      (ai (aL (i:=6) fC.nd rfl (GN rfl) (aw O_law_take (hr.mono (by decide)) rfl (aa (pv 0) (aa (ba cH (pv 2) ah) ae))))
      (ai (aL (i:=7) fC.nd rfl (GN rfl) (aw O_law_end (hr.mono (by decide)) rfl (aa (pv 0) (aa (pv 3) (aa (pv 1) ae)))))
      (ar (dH (fU PySem.F.plainAttrs_list PySem.F.slot_list_append PySem.F.type_list_append fi (pv 4) (aa (aV (aa (br bF rfl Z.tuple cI (aa (de ["j"] ["bag", "names"] [0,3] rfl (eJ rfl Z.range (aa (pv 6) ae)) rfl (by decide +kernel) (by decide +kernel) (by decide +kernel) ⟨⟨rfl,.inl rfl,rfl⟩,⟨⟨rfl,.inl rfl,rfl⟩,True.intro⟩⟩ (fun _ _ _ _=>(aB (i:=0) (show ((["j"]:List Str)++(["bag", "names"]:List Str)).Nodup by decide +kernel) rfl (GN rfl) (hf:=G6 rfl))) (fun _ _ _ _=>dI) (fun _ _ _ _=>(aw O_law_deed (hr.mono (by decide)) rfl (aa (pv 1) (aa (pv 2) ae))))) ae)) (aa (pv 7) ae))) ae)))))))
      (ar (aH (br bF rfl Z.tuple cI (aa (pv 4) ae))))))),?_⟩
    refine⟨_,rfl,b,rfl,hB,fun l xs H1 N1 x4 B1 X1=>?_⟩
    refine⟨(by show 0<=sizeLine;decide),fun pl pn=>?_⟩
    have hpb:pl≠b:=B1.du pn
    refine⟨_,rfl,_,rfl,(by omega),(by omega),ix (lo:=0) (fun i GK H'=>∃(u1 u2 u3:Option V) (ps:List Piece) (vs:List V),GK=[some (.ref b),some (.int c),some (.int m),some (.ref l),some (.ref pl),u1,u2,u3] /\
      H' pl=some (.lst vs)/\aX H' vs (ps.map dY)/\ps.length=i/\(∀p∈ps,(p.1.length<=m/\∀d∈p.1,fz xs d)/\jw xs c p.2)/\fV H' b l xs/\bU H' b/\Fix b H H'/\(∀d o,H1 d=some o->d≠b->H' d=some o)) ?_ ?_ ?_⟩
    . exact⟨_,_,_,[],[],rfl,af,.nil,rfl,(fun _ h=>nomatch h),N1.fix (Fix.new pn),B1.new pn,X1.trans (Fix.new pn),Fix.new pn⟩
    . rintro i GK H' hi ⟨u1,u2,u3,ps,vs,rfl,hp,hr,hl,aW,N',B',X',Y'⟩
      refine⟨_,rfl,_,rfl,_,_,rfl,rfl,b,_,rfl,B',⟨by omega,dh (by omega) (by omega)⟩,fun k H2 k0 k1 B2 X2=>?_⟩
      have N2:=N'.fix X2
      refine⟨_,rfl,_,rfl,_,rfl,b,l,xs,c,rfl,B2,N2,c0,(by omega),fun ev e H3 re ek B3 X3=>?_⟩
      have N3:=N2.fix X3
      have hp3:H3 pl=some (.lst vs):=(X2.trans X3) pl _ hp hpb
      have hr3:aX H3 vs (ps.map dY):=hr.fix B' (X2.trans X3) (cD ps)
      refine⟨_,rfl,.inl ⟨rfl,_,aU.of hp3⟩,_,rfl,_,rfl,(by omega),(by omega),fun acc na=>?_⟩
      have hab:acc≠b:=B3.du na
      refine ko (lo:=0) (fun i ys GL H'=>∃(v:Option V) (ds:List cf),GL=[v,some (.ref b),some (.ref l)]/\aX H' ys (ds.map bG)/\ds.length=i/\(∀d∈ds,fz xs d)/\H' acc=some (.lst ys)/\bU H' b/\Fix b H3 H') ?_ ?_ ?_ ?_
      . exact⟨none,[],rfl,.nil,rfl,(fun _ h=>nomatch h),af,B3.new na,Fix.new na⟩
      . rintro i' ys GL H4 hi' ⟨v,ds,rfl,rds,hl',_,ha,_⟩
        refine⟨ha,?_⟩
        rw [rds.len,GO]
        exact bE (by omega)
      . rintro i' ys GL H4 hi' ⟨v,ds,rfl,rds,hl',hdk,ha,B4,X4⟩
        refine cY ?_
        refine gK ?_
        refine bL ?_
        refine⟨_,rfl,_,rfl,b,l,xs,rfl,B4,N3.fix X4,fun dv d H5 rd dk B5 X5=>?_⟩
        have ha5:=X5 acc _ ha hab
        refine⟨ha5,_,ds++[d],rfl,?_,(by rw [GW,hl'];rfl),?_,af,?_,?_⟩
        . rw [G3]
          refine aX.app ((rds.fix B4 X5 (bH ds)).put ha5 (bH ds)) ?_
          exact rd.aK (fun p zs e=>by rw [au (bN e ha5 (by intro z;cases z))];exact e) (nU d)
        . intro d' hd
          rcases Hd.mp hd with hd | hd
          . exact hdk d' hd
          . rw [GR.mp hd];exact dk
        . obtain⟨x,y,e,z⟩:=B5
          exact⟨x,y,by rw [au hab.symm];exact e,z⟩
        . intro d' o hd nd
          rw [au (aG hd na)]
          exact (X4.trans X5) d' o hd nd
      . rintro ys GL H4 ⟨v,ds,rfl,rds,hl',hdk,ha,B4,X4⟩
        refine⟨acc,ys,rfl,.inl ⟨aU.of ha,fun tp tn=>?_⟩⟩
        refine⟨_,rfl,ln2,fun pc pcn=>?_⟩
        have S6:ao H4 (upd (upd H4 tp (.tup ys)) pc (.tup [.ref tp,ev])):=(ao.new tn).trans (ao.new pcn)
        have hp6:(upd (upd H4 tp (.tup ys)) pc (.tup [.ref tp,ev])) pl=some (.lst vs):=S6 _ _ (X4 pl _ hp3 hpb)
        refine⟨pl,_,_,rfl,rfl,hp6,?_,?_⟩
        . rw [hr.len,GO,hl]
          exact bE (by omega)
        have hpiece:aY (upd (upd H4 tp (.tup ys)) pc (.tup [.ref tp,ev])) (.ref pc) (dY (ds,e)):=by
          refine .tup af (.cons (.tup (ao.new pcn _ _ af) (rds.same S6 (bH ds))) (.cons ?_ .nil))
          exact (re.fix B3 X4 (ku e)).same S6 (ku e)
        have F6:Fix b H (upd (upd H4 tp (.tup ys)) pc (.tup [.ref tp,ev])):=((X'.trans (X2.trans X3)).trans X4).trans (Fix.of_same S6)
        have plH:∀d o,H1 d=some o->d≠b->d≠pl:=fun d o hd nd z=>by rw [z,pn] at hd;cases hd
        refine⟨_,_,_,ps++[(ds,e)],vs++[.ref pc],rfl,af,?_,(by rw [GW,hl];rfl),?_,?_,?_,?_,?_⟩
        . rw [G3]
          refine aX.app (((hr3.fix B3 X4 (cD ps)).same S6 (cD ps)).put hp6 (cD ps)) ?_
          exact hpiece.aK (fun p zs e=>by rw [au (bN e hp6 (by intro z;cases z))];exact e) (je (ds,e))
        . intro p hpm
          rcases Hd.mp hpm with hpm | hpm
          . exact aW p hpm
          . rw [GR.mp hpm]
            exact⟨⟨by show ds.length<=m;omega,hdk⟩,ek⟩
        . have hll:l≠pl:=fun z=>by
            have:=N1.at_
            rw [z,pn] at this
            cases this
          have N6:=(N3.fix X4).fix (Fix.of_same (b:=b) S6)
          exact⟨by rw [au hll];exact N6.at_,N6.ne,N6.xO,N6.bB,N6.ok⟩
        . obtain⟨x,y,e',z⟩:=B4.same S6
          exact⟨x,y,by rw [au hpb.symm];exact e',z⟩
        . intro d o hd nd
          have h1:=X1 d o hd nd
          rw [au (plH d o h1 nd)]
          exact F6 d o hd nd
        . intro d o hd nd
          rw [au (plH d o hd nd)]
          exact S6 d o (X4 d o ((X2.trans X3) d o (Y' d o hd nd) nd) nd)
    . rintro GK H' ⟨u1,u2,u3,ps,vs,rfl,hp,hr,hl,aW,N',B',X',Y'⟩
      have hl':ps.length=c:=by rw [hl];omega
      refine⟨_,rfl,pl,_,rfl,.inl ⟨aU.of hp,fun tp tn=>?_⟩⟩
      refine q (.ref tp) xs ps _ (.tup af (hr.same (ao.new tn) (cD ps))) hl' ⟨fun p hpm=>(aW p hpm).1,fun p hpm=>?_⟩ ⟨N'.ok,x4⟩ (B'.new tn) (X'.trans (Fix.new tn))
      rw [hl']
      exact (aW p hpm).2
theorem vy {f:Addr} {fd:FuncData} (F:b0 K "_law_count" "_law_count" jT f fd) (Z:Bl mg) (O_law_take:Own P w K mg base "_law_take" 1 ["bag", "many"] eN):bp P w K mg base bT 2 f fd ["bag", "most"] wI:=by
 refine F.ok (k:=1) vq (fun vs H Q E h=>?_) (fun cdv A outer s H vs Q E hr h=>?_)
 ·obtain⟨b,m,rfl,_⟩:=h
  rfl
 ·obtain⟨b,m,rfl,hB,m0,m1,q⟩:=h
  refine⟨_,(ar (aH (aI bY (cX (aa (ba cH ah (aw O_law_take (hr.mono (by decide)) rfl (aa (pv 0) (aa (pv 1) ae)))) (aa (ba cH ah (aw O_law_take (hr.mono (by decide)) rfl (aa (pv 0) (aa (aQ (lW rfl) rfl Z.min uq (aa ah (aa (pv 1) ae))) ae)))) (aa (pv 1) ae)))) (aw O_law_take (hr.mono (by decide)) rfl (aa (pv 0) (aa ah ae))) (fun _ _=>rfl)))),?_⟩
  refine⟨_,rfl,_,rfl,b,_,rfl,hB,⟨by omega,dh (by omega) (by omega)⟩,fun r H1 r0 r1 B1 X1=>⟨_,_,rfl,rfl,?_⟩⟩
  refine⟨_,rfl,_,rfl,_,_,rfl,b,_,rfl,B1,⟨(by split <;> omega),dh (by split <;> omega) (by split <;> omega)⟩,fun r2 H2 r20 r21 B2 X2=>⟨_,_,rfl,rfl,?_⟩⟩
  refine⟨_,rfl,si,fun l0 n0=>?_⟩
  refine⟨_,rfl,b,3,rfl,B2.new n0,⟨by decide,by decide +kernel⟩,fun z H3 z0 z1 B3 X3=>?_⟩
  have h0:H3 l0=some (.lst [.int (1+r),.int (1+r2),.int m]):=X3 l0 _ af (B2.du n0)
  have hr2:r2<4:=by
   have:=r21
   split at this <;> omega
  have F3:Fix b H H3:=((X1.trans X2).trans (Fix.new n0)).trans X3
  obtain rfl | rfl | rfl:z=0\/z=1\/z=2:=by omega
  ·refine⟨l0,_,0,_,rfl,rfl,aU.of h0,bW,?_⟩
   have e:(1+r)=(((1+r).toNat:Nat):Int):=by omega
   rw [e]
   exact q _ H3 (by omega) (by omega) B3 F3
  ·refine⟨l0,_,1,_,rfl,rfl,aU.of h0,cR,?_⟩
   have e:(1+r2)=(((1+r2).toNat:Nat):Int):=by omega
   rw [e]
   exact q _ H3 (by omega) (by omega) B3 F3
  ·refine⟨l0,_,2,_,rfl,rfl,aU.of h0,at2,?_⟩
   exact q _ H3 m0 (by omega) B3 F3
theorem v5 {f:Addr} {fd:FuncData} (F:b0 K "_law_step" "_law_step" ll f fd) (Z:Bl mg)  : bp P w K mg base bT 1 f fd ["plan", "state", "numbers"] za:=by
 refine F.ok (k:=0) bX (fun vs H Q E h=>?_) (fun cdv A outer s H vs Q E hr h=>?_)
 ·obtain⟨plv,st,np,d,tl,bl,ps,nums,S,m,rfl,_⟩:=h
  rfl
 ·obtain⟨plv,st,np,d,tl,bl,ps,nums,S,m,rfl,hp,hin,hnp,A,hpc,htk,hm,q⟩:=h
  refine⟨_,(ai (cS (cN (pv 1) (cG rfl (aM (aB (i:=3) bX.nd rfl (GN rfl)) (aM (aB (i:=4) bX.nd rfl (GN rfl)) (aM (aB (i:=5) bX.nd rfl (GN rfl)) (aM (aB (i:=6) bX.nd rfl (GN rfl)) (aM (aB (i:=7) bX.nd rfl (GN rfl)) (aM (aB (i:=8) bX.nd rfl (GN rfl)) (aM (aB (i:=9) bX.nd rfl (GN rfl)) cb))))))))))
   (ai (cS (cN (aI aN (pv 0) (pv 3) (fun _ _=>rfl)) (cG rfl (aM (aB (i:=10) bX.nd rfl (GN rfl)) (aM (aB (i:=11) bX.nd rfl (GN rfl)) cb)))))
   (ai (aZ (aF gH (pv 4) (aQ aO rfl Z.len bJ (aa (pv 10) ae)) (aJ _))
   (ai (aL (i:=12) bX.nd rfl (GN rfl) (aI aN (pv 10) (pv 4) (fun _ _=>rfl)))
   (ai (cS (aL (i:=13) bX.nd rfl (GN rfl) (d8 (dt hr) (pv 5) (aI aN (pv 12) ah (fun _ _=>rfl)) ah ⟨rfl,rfl,rfl,rfl⟩)))
   (ai (aZ (aF bw (aI aN (pv 12) ah (fun _ _=>rfl)) bh (aJ _))
   (ar (fW (dt hr) (pv 5) (aI aN (pv 12) ah (fun _ _=>rfl)) (aI aN (pv 12) ah (fun _ _=>rfl)) rfl))
   aP)
   (ai (aZ (aF bw (aI aN (pv 12) ah (fun _ _=>rfl)) bh (aJ _))
   (ar (fW (dt hr) (pv 5) (aI aN (pv 12) ah (fun _ _=>rfl)) (d8 (dt hr) (pv 5) (aI aN (pv 12) ah (fun _ _=>rfl)) ah ⟨rfl,rfl,rfl,rfl⟩) rfl))
   aP)
   (ai (aZ (aF bw (aI aN (pv 12) ah (fun _ _=>rfl)) bh (aJ _))
   (ar (fW (dt hr) (pv 5) (aI aN (pv 12) ah (fun _ _=>rfl)) (ba cH (pv 13) (aI aN (pv 12) ah (fun _ _=>rfl))) rfl))
   aP)
   (ai (aZ (aF bw (aI aN (pv 12) ah (fun _ _=>rfl)) bh (aJ _))
   (ar (dH (fU PySem.F.plainAttrs_list PySem.F.slot_list_append PySem.F.type_list_append fi (pv 7) (aa (pv 13) ae))))
   aP)
   (ai (aZ (aF bw (aI aN (pv 12) ah (fun _ _=>rfl)) bh (aJ _))
   (ai (aZ (aF bw (pv 6) (aQ aO rfl Z.len bJ (aa (pv 2) ae)) (aJ _))
   (ar (aH (aV (h9 (pv 3) (pv 4) (pv 5) (pv 6) (pv 7) bh (pv 9)))))
   aP)
   (ai (fW (dt hr) (pv 5) (aI aN (pv 12) ah (fun _ _=>rfl)) (aI aN (pv 2) (pv 6) (fun _ _=>rfl)) rfl)
   (ar (aL (i:=6) bX.nd rfl (GN rfl) (ba cH (pv 6) ah)))))
   aP)
   (ar (aH (aV (h9 (pv 3) (ba cH (pv 4) ah) (pv 5) (pv 6) (pv 7) (pv 8) (pv 9))))))))))))
   aP)
   (ai (aZ (aF bw (aI aN (pv 11) ah (fun _ _=>rfl)) bh (aJ _))
   (ar (aH (aV (h9 (pv 3) (pv 4) (pv 5) (pv 6) (pv 7) bh (pv 9)))))
   aP)
   (ai (aZ (aF bw (aI aN (pv 11) ah (fun _ _=>rfl)) bh (aJ _))
   (ar (aL (i:=14) bX.nd rfl (GN rfl) (aI aN (pv 11) ah (fun _ _=>rfl))))
   (ai (cS (aL (i:=13) bX.nd rfl (GN rfl) (d8 (dt hr) (pv 5) (aI aN (pv 11) ah (fun _ _=>rfl)) ah ⟨rfl,rfl,rfl,rfl⟩)))
   (ai (aL (i:=15) bX.nd rfl (GN rfl) (aI bY (cX (aa (ef gH (pv 13) (aI aN (pv 11) ah (fun _ _=>rfl)) (aJ _)) (aa (ef bw (pv 13) (aI aN (pv 11) ah (fun _ _=>rfl)) (aJ _)) ae))) (br jv rfl Z.int pA (aa (ef bw (aI aN (pv 11) ah (fun _ _=>rfl)) bh (aJ _)) ae)) (fun _ _=>rfl)))
   (ar (aL (i:=14) bX.nd rfl (GN rfl) (aI aN (pv 11) (ba fb ah (br jv rfl Z.int pA (aa (pv 15) ae))) (fun _ _=>rfl)))))))
   (ai (dH (fU PySem.F.plainAttrs_list PySem.F.slot_list_append PySem.F.type_list_append fi (pv 9) (aa (pv 14) ae)))
   (ar (aH (aV (h9 (pv 14) ah (pv 5) (pv 6) (pv 7) (pv 8) (pv 9))))))))))),?_⟩
  obtain⟨kvs,hd,dw,hk⟩:=A.dict
  have hx:ps[S.b5]?=some ps[S.b5]:=by simp [hpc]
  generalize hpe:ps[S.b5]=pe at hx
  obtain⟨ds,e⟩:=pe
  obtain⟨p,xs,pc,da,ea,vs,rfl,e1,el,hx',e2,e3,r3,e4⟩:=fK hp hx
  have hvl:vs.length=ds.length:=by rw [r3.len,GO]
  have ndt:d≠tl:=bN hd A.told (by intro z;cases z)
  have ndb:d≠bl:=bN hd A.bM (by intro z;cases z)
  refine⟨fun σ' H'=>σ' = [some (.ref p),some (.ref st),some (.ref np),some (.int S.b5),some (.int S.place),some (.ref d),some (.int S.taken),some (.ref tl),some (.str S.word),some (.ref bl),none,none,none,none,none,none]/\H=H',⟨_,rfl,st,_,rfl,av.of A.at_,rfl,_,_,rfl,_,_,rfl,_,_,rfl,_,_,rfl,_,_,rfl,_,_,rfl,_,_,rfl,rfl,rfl,rfl⟩,?_⟩
  rintro σ' H' ⟨rfl,rfl⟩
  refine⟨fun σ' H''=>σ' = [some (.ref p),some (.ref st),some (.ref np),some (.int S.b5),some (.int S.place),some (.ref d),some (.int S.taken),some (.ref tl),some (.str S.word),some (.ref bl),some (.ref da),some (.ref ea),none,none,none,none]/\H=H'',⟨_,rfl,_,rfl,p,xs,_,_,rfl,rfl,av.of e1,bA hx',pc,_,rfl,av.of e2,rfl,_,_,rfl,_,_,rfl,rfl,rfl,rfl⟩,?_⟩
  rintro σ' H'' ⟨rfl,rfl⟩
  refine⟨_,rfl,_,rfl,da,_,rfl,.inr (av.of e3),_,_,rfl,rfl,_,rfl,?_⟩
  refine cB (fun hc=>?_) (fun hc=>?_)
  ·have hlt:S.place<vs.length:=by have:=of_decide_eq_true hc;omega
   have hdd:ds[S.place]?=some (ds[S.place]'(by omega)):=by simp [show S.place<ds.length by omega]
   generalize hde:ds[S.place]'(by omega)=dd at hdd
   have hs:=jy (nums:=nums) hx hdd
   obtain⟨v,hv,rd⟩:=r3.get (i:=S.place) (d:=bG dd) (by rw [G8,hdd];rfl)
   obtain⟨dp,rfl,hdp⟩:=qR rd
   have nd:dp≠d:=bN hdp hd (by intro z;cases z)
   refine⟨_,rfl,_,rfl,da,_,_,_,rfl,rfl,av.of e3,bA hv,?_⟩
   clear hde
   cases dd
   case put x n =>
    refine⟨fun σ' H1=>σ' = [some (.ref p),some (.ref st),some (.ref np),some (.int S.b5),some (.int S.place),some (.ref d),some (.int S.taken),some (.ref tl),some (.str S.word),some (.ref bl),some (.ref da),some (.ref ea),some (.ref dp),some (.int (S.w x)),none,none]/\H=H1,⟨_,rfl,d,rfl,.inl ⟨kvs,.inl hd⟩,_,rfl,dp,_,1,_,rfl,rfl,av.of hdp,cR,_,_,dP.k (k:=Sum.inr x) hd,dw x,rfl,rfl⟩,?_⟩
    rintro σ' H1 ⟨rfl,rfl⟩
    refine⟨_,rfl,dp,_,0,_,rfl,rfl,av.of hdp,bW,rfl,_,rfl,?_⟩
    refine cu (show decide (V.str "put" = V.str "put")=true by decide +kernel) ?_
    refine⟨_,rfl,dp,_,2,_,rfl,rfl,av.of hdp,at2,_,rfl,_,rfl,dp,_,1,_,rfl,rfl,av.of hdp,cR,d,_,rfl,hV.k (k:=Sum.inr x) hd (eQ (by omega)),?_⟩
    have hdp1:(upd H d (.dK (putK kvs (Sum.inr x) (.int (n))))) dp=some (.tup (jx (.put x n))):=by rw [au nd];exact hdp
    refine⟨_,rfl,dp,_,0,_,rfl,rfl,av.of hdp1,bW,rfl,_,rfl,?_⟩
    refine bc (show decide (V.str "put" = V.str "copy")=false by decide +kernel) ?_
    refine⟨_,rfl,dp,_,0,_,rfl,rfl,av.of hdp1,bW,rfl,_,rfl,?_⟩
    refine bc (show decide (V.str "put" = V.str "add")=false by decide +kernel) ?_
    refine⟨_,rfl,dp,_,0,_,rfl,rfl,av.of hdp1,bW,rfl,_,rfl,?_⟩
    refine bc (show decide (V.str "put" = V.str "tell")=false by decide +kernel) ?_
    refine⟨_,rfl,dp,_,0,_,rfl,rfl,av.of hdp1,bW,rfl,_,rfl,?_⟩
    refine bc (show decide (V.str "put" = V.str "read")=false by decide +kernel) ?_
    refine⟨_,rfl,_,rfl,_,_,rfl,rfl,_,rfl,_,rfl,_,rfl,_,rfl,_,rfl,mi,fun st' hn=>?_⟩
    refine q st' _ (fc.nV (kvs:=putK kvs (Sum.inr x) (.int (n))) af ?_ ?_ ?_ ?_ A.ne ?_ hn ?_) (eB.tU.trans (eB.new hn))
    ·rw [hs];exact dw.put x (n)
    ·have:=fB kvs (Sum.inr x:Key) (V.int (n));omega
    ·rw [hs,au ndt.symm];exact A.told
    ·rw [hs,au ndb.symm];exact A.bM
    ·rw [hs];exact⟨Hl A.bB.1,Hl A.bB.2⟩
    ·rw [hs];rfl
   case copy x y =>
    refine⟨fun σ' H1=>σ' = [some (.ref p),some (.ref st),some (.ref np),some (.int S.b5),some (.int S.place),some (.ref d),some (.int S.taken),some (.ref tl),some (.str S.word),some (.ref bl),some (.ref da),some (.ref ea),some (.ref dp),some (.int (S.w x)),none,none]/\H=H1,⟨_,rfl,d,rfl,.inl ⟨kvs,.inl hd⟩,_,rfl,dp,_,1,_,rfl,rfl,av.of hdp,cR,_,_,dP.k (k:=Sum.inr x) hd,dw x,rfl,rfl⟩,?_⟩
    rintro σ' H1 ⟨rfl,rfl⟩
    refine⟨_,rfl,dp,_,0,_,rfl,rfl,av.of hdp,bW,rfl,_,rfl,?_⟩
    refine bc (show decide (V.str "copy" = V.str "put")=false by decide +kernel) ?_
    refine⟨_,rfl,dp,_,0,_,rfl,rfl,av.of hdp,bW,rfl,_,rfl,?_⟩
    refine cu (show decide (V.str "copy" = V.str "copy")=true by decide +kernel) ?_
    refine⟨_,rfl,d,rfl,.inl ⟨kvs,.inl hd⟩,_,rfl,dp,_,2,_,rfl,rfl,av.of hdp,at2,_,_,dP.k (k:=Sum.inr y) hd,dw y,_,rfl,_,rfl,dp,_,1,_,rfl,rfl,av.of hdp,cR,d,_,rfl,hV.k (k:=Sum.inr x) hd (eQ (by omega)),?_⟩
    have hdp1:(upd H d (.dK (putK kvs (Sum.inr x) (.int (S.w y))))) dp=some (.tup (jx (.copy x y))):=by rw [au nd];exact hdp
    refine⟨_,rfl,dp,_,0,_,rfl,rfl,av.of hdp1,bW,rfl,_,rfl,?_⟩
    refine bc (show decide (V.str "copy" = V.str "add")=false by decide +kernel) ?_
    refine⟨_,rfl,dp,_,0,_,rfl,rfl,av.of hdp1,bW,rfl,_,rfl,?_⟩
    refine bc (show decide (V.str "copy" = V.str "tell")=false by decide +kernel) ?_
    refine⟨_,rfl,dp,_,0,_,rfl,rfl,av.of hdp1,bW,rfl,_,rfl,?_⟩
    refine bc (show decide (V.str "copy" = V.str "read")=false by decide +kernel) ?_
    refine⟨_,rfl,_,rfl,_,_,rfl,rfl,_,rfl,_,rfl,_,rfl,_,rfl,_,rfl,mi,fun st' hn=>?_⟩
    refine q st' _ (fc.nV (kvs:=putK kvs (Sum.inr x) (.int (S.w y))) af ?_ ?_ ?_ ?_ A.ne ?_ hn ?_) (eB.tU.trans (eB.new hn))
    ·rw [hs];exact dw.put x (S.w y)
    ·have:=fB kvs (Sum.inr x:Key) (V.int (S.w y));omega
    ·rw [hs,au ndt.symm];exact A.told
    ·rw [hs,au ndb.symm];exact A.bM
    ·rw [hs];exact⟨Hl A.bB.1,Hl A.bB.2⟩
    ·rw [hs];rfl
   case add x n =>
    refine⟨fun σ' H1=>σ' = [some (.ref p),some (.ref st),some (.ref np),some (.int S.b5),some (.int S.place),some (.ref d),some (.int S.taken),some (.ref tl),some (.str S.word),some (.ref bl),some (.ref da),some (.ref ea),some (.ref dp),some (.int (S.w x)),none,none]/\H=H1,⟨_,rfl,d,rfl,.inl ⟨kvs,.inl hd⟩,_,rfl,dp,_,1,_,rfl,rfl,av.of hdp,cR,_,_,dP.k (k:=Sum.inr x) hd,dw x,rfl,rfl⟩,?_⟩
    rintro σ' H1 ⟨rfl,rfl⟩
    refine⟨_,rfl,dp,_,0,_,rfl,rfl,av.of hdp,bW,rfl,_,rfl,?_⟩
    refine bc (show decide (V.str "add" = V.str "put")=false by decide +kernel) ?_
    refine⟨_,rfl,dp,_,0,_,rfl,rfl,av.of hdp,bW,rfl,_,rfl,?_⟩
    refine bc (show decide (V.str "add" = V.str "copy")=false by decide +kernel) ?_
    refine⟨_,rfl,dp,_,0,_,rfl,rfl,av.of hdp,bW,rfl,_,rfl,?_⟩
    refine cu (show decide (V.str "add" = V.str "add")=true by decide +kernel) ?_
    refine⟨_,rfl,_,rfl,dp,_,2,_,rfl,rfl,av.of hdp,at2,_,_,rfl,rfl,_,rfl,_,rfl,dp,_,1,_,rfl,rfl,av.of hdp,cR,d,_,rfl,hV.k (k:=Sum.inr x) hd (eQ (by omega)),?_⟩
    have hdp1:(upd H d (.dK (putK kvs (Sum.inr x) (.int (S.w x+n))))) dp=some (.tup (jx (.add x n))):=by rw [au nd];exact hdp
    refine⟨_,rfl,dp,_,0,_,rfl,rfl,av.of hdp1,bW,rfl,_,rfl,?_⟩
    refine bc (show decide (V.str "add" = V.str "tell")=false by decide +kernel) ?_
    refine⟨_,rfl,dp,_,0,_,rfl,rfl,av.of hdp1,bW,rfl,_,rfl,?_⟩
    refine bc (show decide (V.str "add" = V.str "read")=false by decide +kernel) ?_
    refine⟨_,rfl,_,rfl,_,_,rfl,rfl,_,rfl,_,rfl,_,rfl,_,rfl,_,rfl,mi,fun st' hn=>?_⟩
    refine q st' _ (fc.nV (kvs:=putK kvs (Sum.inr x) (.int (S.w x+n))) af ?_ ?_ ?_ ?_ A.ne ?_ hn ?_) (eB.tU.trans (eB.new hn))
    ·rw [hs];exact dw.put x (S.w x+n)
    ·have:=fB kvs (Sum.inr x:Key) (V.int (S.w x+n));omega
    ·rw [hs,au ndt.symm];exact A.told
    ·rw [hs,au ndb.symm];exact A.bM
    ·rw [hs];exact⟨Hl A.bB.1,Hl A.bB.2⟩
    ·rw [hs];rfl
   case read x =>
    refine⟨fun σ' H1=>σ' = [some (.ref p),some (.ref st),some (.ref np),some (.int S.b5),some (.int S.place),some (.ref d),some (.int S.taken),some (.ref tl),some (.str S.word),some (.ref bl),some (.ref da),some (.ref ea),some (.ref dp),some (.int (S.w x)),none,none]/\H=H1,⟨_,rfl,d,rfl,.inl ⟨kvs,.inl hd⟩,_,rfl,dp,_,1,_,rfl,rfl,av.of hdp,cR,_,_,dP.k (k:=Sum.inr x) hd,dw x,rfl,rfl⟩,?_⟩
    rintro σ' H1 ⟨rfl,rfl⟩
    refine⟨_,rfl,dp,_,0,_,rfl,rfl,av.of hdp,bW,rfl,_,rfl,?_⟩
    refine bc (show decide (V.str "read" = V.str "put")=false by decide +kernel) ?_
    refine⟨_,rfl,dp,_,0,_,rfl,rfl,av.of hdp,bW,rfl,_,rfl,?_⟩
    refine bc (show decide (V.str "read" = V.str "copy")=false by decide +kernel) ?_
    refine⟨_,rfl,dp,_,0,_,rfl,rfl,av.of hdp,bW,rfl,_,rfl,?_⟩
    refine bc (show decide (V.str "read" = V.str "add")=false by decide +kernel) ?_
    refine⟨_,rfl,dp,_,0,_,rfl,rfl,av.of hdp,bW,rfl,_,rfl,?_⟩
    refine bc (show decide (V.str "read" = V.str "tell")=false by decide +kernel) ?_
    refine⟨_,rfl,dp,_,0,_,rfl,rfl,av.of hdp,bW,rfl,_,rfl,?_⟩
    refine cu (show decide (V.str "read" = V.str "read")=true by decide +kernel) ?_
    refine⟨_,rfl,_,rfl,np,_,rfl,.inr (av.of hnp),rfl,_,rfl,?_⟩
    refine cB (fun ht=>?_) (fun ht=>?_)
    ·have he:S.taken=nums.length:=by
      have:=V.int.inj (of_decide_eq_true ht)
      rw [GO] at this
      omega
     have hnn:nums[S.taken]?=none:=by rw [he];simp
     have hs':d6 ps nums S={ S with word := "dry" }:=by rw [hs];show (match nums[S.taken]? with | none=>_ | some n=>_)=_;rw [hnn]
     refine⟨_,rfl,_,rfl,_,rfl,_,rfl,_,rfl,_,rfl,mi,fun st' hn=>?_⟩
     rw [hs'] at q
     exact q st' _ (fc.nV (S':={ S with word := "dry" }) hd dw (Hl hk) A.told A.bM A.ne ⟨Hl A.bB.1,Hl A.bB.2⟩ hn rfl) (eB.new hn)
    ·have hlt2:S.taken<nums.length:=by
      refine Nat.lt_of_le_of_ne htk fun z=>ht (decide_eq_true ?_)
      rw [GO,z]
     have hnn:nums[S.taken]?=some nums[S.taken]:=by simp [hlt2]
     generalize hne:nums[S.taken]=n at hnn
     have hnv:(nums.map V.int)[S.taken]?=some (V.int n):=by rw [G8,hnn];rfl
     have hs':d6 ps nums S={ S with w:=dD S.w x n,taken:=S.taken+1,place:=S.place+1 }:=by rw [hs];show (match nums[S.taken]? with | none=>_ | some n=>_)=_;rw [hnn]
     refine⟨_,rfl,_,rfl,np,_,_,_,rfl,rfl,av.of hnp,bA hnv,_,rfl,_,rfl,dp,_,1,_,rfl,rfl,av.of hdp,cR,d,_,rfl,hV.k (k:=Sum.inr x) hd (eQ (by omega)),?_⟩
     refine⟨_,rfl,_,_,rfl,rfl,?_⟩
     refine⟨_,rfl,_,rfl,_,_,rfl,rfl,_,rfl,_,rfl,_,rfl,_,rfl,_,rfl,mi,fun st' hn=>?_⟩
     rw [hs'] at q
     refine q st' _ (fc.nV (S':={ S with w:=dD S.w x n,taken:=S.taken+1,place:=S.place+1 }) (kvs:=putK kvs (Sum.inr x) (.int n)) af (dw.put x n) ?_ ?_ ?_ A.ne ⟨Hl A.bB.1,Hl A.bB.2⟩ hn rfl) (eB.tU.trans (eB.new hn))
     ·have:=fB kvs (Sum.inr x:Key) (V.int n);omega
     ·rw [au ndt.symm];exact A.told
     ·rw [au ndb.symm];exact A.bM
   case tell x =>
    refine⟨fun σ' H1=>σ' = [some (.ref p),some (.ref st),some (.ref np),some (.int S.b5),some (.int S.place),some (.ref d),some (.int S.taken),some (.ref tl),some (.str S.word),some (.ref bl),some (.ref da),some (.ref ea),some (.ref dp),some (.int (S.w x)),none,none]/\H=H1,⟨_,rfl,d,rfl,.inl ⟨kvs,.inl hd⟩,_,rfl,dp,_,1,_,rfl,rfl,av.of hdp,cR,_,_,dP.k (k:=Sum.inr x) hd,dw x,rfl,rfl⟩,?_⟩
    rintro σ' H1 ⟨rfl,rfl⟩
    refine⟨_,rfl,dp,_,0,_,rfl,rfl,av.of hdp,bW,rfl,_,rfl,?_⟩
    refine bc (show decide (V.str "tell" = V.str "put")=false by decide +kernel) ?_
    refine⟨_,rfl,dp,_,0,_,rfl,rfl,av.of hdp,bW,rfl,_,rfl,?_⟩
    refine bc (show decide (V.str "tell" = V.str "copy")=false by decide +kernel) ?_
    refine⟨_,rfl,dp,_,0,_,rfl,rfl,av.of hdp,bW,rfl,_,rfl,?_⟩
    refine bc (show decide (V.str "tell" = V.str "add")=false by decide +kernel) ?_
    refine⟨_,rfl,dp,_,0,_,rfl,rfl,av.of hdp,bW,rfl,_,rfl,?_⟩
    refine cu (show decide (V.str "tell" = V.str "tell")=true by decide +kernel) ?_
    refine⟨_,rfl,.inl ⟨rfl,_,aU.of A.told⟩,_,rfl,tl,_,_,rfl,rfl,A.told,(by rw [GO];exact eQ (by have:=A.bB.1;omega)),?_⟩
    have hdp1:(upd H tl (.lst (S.told.map V.int++[.int (S.w x)]))) dp=some (.tup (jx (.tell x))):=by rw [au (bN hdp A.told (by intro z;cases z))];exact hdp
    refine⟨_,rfl,dp,_,0,_,rfl,rfl,av.of hdp1,bW,rfl,_,rfl,?_⟩
    refine bc (show decide (V.str "tell" = V.str "read")=false by decide +kernel) ?_
    refine⟨_,rfl,_,rfl,_,_,rfl,rfl,_,rfl,_,rfl,_,rfl,_,rfl,_,rfl,mi,fun st' hn=>?_⟩
    refine q st' _ (fc.nV (kvs:=kvs) ?_ ?_ ?_ ?_ ?_ A.ne ?_ hn ?_) (eB.Fe.trans (eB.new hn))
    ·rw [au ndt];exact hd
    ·rw [hs];exact dw
    ·omega
    ·rw [hs,af]
     show _=some (HO.lst ((S.told++[S.w x]).map V.int))
     rw [G3]
     rfl
    ·rw [hs,au A.ne.symm];exact A.bM
    ·rw [hs]
     refine⟨?_,Hl A.bB.2⟩
     show (S.told++[S.w x]).length<=m+1
     rw [GW]
     exact Ip A.bB.1
    ·rw [hs];rfl
  ·have hnone:ds[S.place]?=none:=by
    rw [Jv]
    have:¬((S.place:Int)<(vs.length:Nat)):=fun z=>hc (decide_eq_true z)
    omega
   have hs:=kF (nums:=nums) hx hnone
   have few1:S.bM.length<1000000:=by have:=A.bB.2;omega
   cases e with
   | stop =>
    refine⟨_,rfl,ea,_,0,_,rfl,rfl,av.of e4,bW,rfl,_,rfl,?_⟩
    refine cu (show decide (V.str "stop" = V.str "stop")=true by decide +kernel) ⟨_,rfl,_,rfl,_,rfl,_,rfl,_,rfl,_,rfl,mi,fun st' hn=>?_⟩
    rw [hs] at q
    exact q st' _ (fc.nV (S':={ S with word := "stop" }) hd dw (Hl hk) A.told A.bM A.ne ⟨Hl A.bB.1,Hl A.bB.2⟩ hn rfl) (eB.new hn)
   | go t =>
    refine⟨_,rfl,ea,_,0,_,rfl,rfl,av.of e4,bW,rfl,_,rfl,?_⟩
    refine bc (show decide (V.str "go" = V.str "stop")=false by decide +kernel) ⟨_,rfl,ea,_,0,_,rfl,rfl,av.of e4,bW,rfl,_,rfl,?_⟩
    refine cu (show decide (V.str "go" = V.str "go")=true by decide +kernel) ⟨_,rfl,ea,_,1,_,rfl,rfl,av.of e4,cR,?_⟩
    refine⟨_,rfl,.inl ⟨rfl,_,aU.of A.bM⟩,_,rfl,bl,_,_,rfl,rfl,A.bM,(by rw [GO];exact eQ (by have:=A.bB.2;omega)),?_⟩
    refine⟨_,rfl,_,rfl,_,rfl,_,rfl,_,rfl,_,rfl,mi,fun st' hn=>?_⟩
    rw [hs] at q
    refine q st' _ (fc.nV (S':=nu S (.go t)) (kvs:=kvs) ?_ dw (Hl hk) ?_ ?_ A.ne ?_ hn rfl) (eB.Co.trans (eB.new hn))
    ·rw [au ndb];exact hd
    ·rw [au A.ne];exact A.told
    ·rw [af]
     show _=some (HO.lst ((S.bM++[t]).map fun k=>V.int (k:Nat)))
     rw [G3]
     rfl
    ·refine⟨Hl A.bB.1,?_⟩
     show (S.bM++[t]).length<=m+1+1
     rw [GW]
     exact Ip A.bB.2
   | bu b x n t t' =>
    have hw1:decide (V.str (wT b)=V.str "stop")=false:=by cases b <;> decide +kernel
    have hw2:decide (V.str (wT b)=V.str "go")=false:=by cases b <;> decide +kernel
    have hw3:decide (V.str (wT b)=V.str "is") = !b:=by cases b <;> decide +kernel
    refine⟨_,rfl,ea,_,0,_,rfl,rfl,av.of e4,bW,rfl,_,rfl,?_⟩
    refine bc hw1 ⟨_,rfl,ea,_,0,_,rfl,rfl,av.of e4,bW,rfl,_,rfl,?_⟩
    refine bc hw2 ?_
    refine⟨fun σ' H1=>σ' = [some (.ref p),some (.ref st),some (.ref np),some (.int S.b5),some (.int S.place),some (.ref d),some (.int S.taken),some (.ref tl),some (.str S.word),some (.ref bl),some (.ref da),some (.ref ea),none,some (.int (S.w x)),none,none]/\H=H1,⟨_,rfl,d,rfl,.inl ⟨kvs,.inl hd⟩,_,rfl,ea,_,1,_,rfl,rfl,av.of e4,cR,_,_,dP.k (k:=Sum.inr x) hd,dw x,rfl,rfl⟩,?_⟩
    rintro σ' H1 ⟨rfl,rfl⟩
    refine⟨_,rfl,_,rfl,ea,_,2,_,rfl,rfl,av.of e4,at2,_,_,rfl,rfl,_,rfl,_,rfl,ea,_,2,_,rfl,rfl,av.of e4,at2,rfl,ln2,fun l0 n0=>?_⟩
    have e5:upd H l0 (.lst [.bl (decide (S.w x<n)),.bl (decide (V.int (S.w x)=V.int n))]) ea=some (.tup (cx (.bu b x n t t'))):=by rw [au (aG e4 n0)];exact e4
    refine⟨_,rfl,ea,_,0,_,rfl,rfl,av.of e5,bW,rfl,.inr ⟨_,rfl,?_⟩⟩
    have hyes:eV [V.bl (decide (S.w x<n)),V.bl (decide (V.int (S.w x)=V.int n))] (if decide (V.str (wT b)=V.str "is")=true then 1 else 0)=some (V.bl (fD b (S.w x) n)):=by
     rw [hw3]
     cases b with
     | true=>exact bW
     | false =>
      have ed:decide (V.int (S.w x)=V.int n)=decide (S.w x=n):=by
       by_cases hh:S.w x=n
       ·rw [decide_eq_true hh,decide_eq_true (congrArg V.int hh)]
       ·rw [decide_eq_false hh,decide_eq_false fun z=>hh (V.int.inj z)]
      rw [ed]
      exact cR
    refine⟨l0,_,_,_,rfl,rfl,aU.of af,hyes,?_⟩
    have hthere:eV (cx (.bu b x n t t')) (4-(if fD b (S.w x) n=true then 1 else 0))=some (V.int ((if fD b (S.w x) n=true then t else t':Nat):Nat)):=by
     cases fD b (S.w x) n with
     | true=>exact bA (j:=3) rfl
     | false=>exact bA (j:=4) rfl
    refine⟨_,rfl,_,rfl,.inr ⟨_,rfl,_,_,rfl,rfl,ea,_,_,_,rfl,rfl,av.of e5,hthere,?_⟩⟩
    have b6:upd H l0 (.lst [.bl (decide (S.w x<n)),.bl (decide (V.int (S.w x)=V.int n))]) bl=some (.lst (S.bM.map fun k=>V.int (k:Nat))):=by rw [au (aG A.bM n0)];exact A.bM
    refine⟨_,rfl,.inl ⟨rfl,_,aU.of b6⟩,_,rfl,bl,_,_,rfl,rfl,b6,(by rw [GO];exact eQ (by have:=A.bB.2;omega)),?_⟩
    refine⟨_,rfl,_,rfl,_,rfl,_,rfl,_,rfl,_,rfl,mi,fun st' hn=>?_⟩
    rw [hs] at q
    refine q st' _ (fc.nV (S':=nu S (.bu b x n t t')) (kvs:=kvs) ?_ dw (Hl hk) ?_ ?_ A.ne ?_ hn rfl) (((eB.new n0).trans eB.Co).trans (eB.new hn))
    ·rw [au ndb,au (aG hd n0)];exact hd
    ·rw [au A.ne,au (aG A.told n0)];exact A.told
    ·rw [af]
     show _=some (HO.lst ((S.bM++[if fD b (S.w x) n=true then t else t']).map fun k=>V.int (k:Nat)))
     rw [G3]
     rfl
    ·refine⟨Hl A.bB.1,?_⟩
     show (S.bM++[_]).length<=m+1+1
     rw [GW]
     exact Ip A.bB.2
theorem v7 {f:Addr} {fd:FuncData} (F:b0 K "_law_walk" "_law_walk" lr f fd) (Z:Bl mg) (O_law_step:Own P w K mg base "_law_step" 1 ["plan", "state", "numbers"] za):bp P w K mg base bT 2 f fd ["plan", "numbers", "steps"] wM:=by
 refine F.ok (k:=1) ir (fun vs H Q E h=>?_) (fun cdv A outer s H vs Q E hr h=>?_)
 ·obtain⟨np,plv,n,nums,ps,rfl,_⟩:=h
  rfl
 ·obtain⟨np,plv,n,nums,ps,rfl,hp,hin,hpc,hnp,hn,q⟩:=h
  refine⟨_,(ai (cS (aL (i:=3) ir.nd rfl (GN rfl) (aV (h9 ah ah kC ah (cX ae) bh (cX (aa ah ae))))))
   (ai (eM PassesOwn.never rfl (eJ rfl Z.range (aa (pv 2) ae)) (aB (i:=4) ir.nd rfl (GN rfl))
   (ar (aZ (aF bw (aI aN (pv 3) ah (fun _ _=>rfl)) bh (aJ _))
   (ar (aL (i:=3) ir.nd rfl (GN rfl) (aw O_law_step (hr.mono (by decide)) rfl (aa (pv 0) (aa (pv 3) (aa (pv 1) ae))))))
   aP)))
   (ar (aH (pv 3))))),?_⟩
  refine⟨fun σ' H'=>∃d tl bl st:Addr,σ' = [some plv,some (.ref np),some (.int n),some (.ref st),none]/\fc H' st d tl bl (cU 0 fun _=>0) 0/\ao H H'/\H d=none/\H tl=none/\H bl=none,
   fun d hd=>⟨(by show 0<=sizeLine;decide),fun tl htl=>⟨nS,fun bl hbl=>⟨mi,fun st hst=>⟨d,tl,bl,st,rfl,?_,?_,hd,?_,?_⟩⟩⟩⟩,?_⟩
  ·refine fc.nV (H1:=upd (upd (upd H d (.dK [])) tl (.lst [])) bl (.lst [.int 0])) (S':=cU 0 fun _=>0) (kvs:=[]) ?_ (fun x=>rfl) (GQ _) ?_ (by rw [af];rfl) ?_ ⟨GQ _,GQ _⟩ hst rfl
   ·exact ao.new hbl _ _ (ao.new htl _ _ af)
   ·exact ao.new hbl _ _ af
   ·exact aG af hbl
  ·exact (((ao.new hd).trans (ao.new htl)).trans (ao.new hbl)).trans (ao.new hst)
  ·exact (ao.new hd).free htl
  ·exact ((ao.new hd).trans (ao.new htl)).free hbl
  rintro σ' H0 ⟨d,tl,bl,st,rfl,A0,s0,hd,ntl,nbl⟩
  refine⟨_,rfl,_,rfl,(by omega),(by omega),ix (lo:=0) (fun i GK H'=>∃(c:Option V) (st':Addr),GK=[some plv,some (.ref np),some (.int n),some (.ref st'),c]/\fc H' st' d tl bl (b8 ps nums i (cU 0 fun _=>0)) i/\ao H H') ?_ ?_ ?_⟩
  ·exact⟨none,st,rfl,A0,s0⟩
  ·rintro i GK H1 hi ⟨c,st',rfl,A1,s1⟩
   have hi':i<n:=by omega
   have wi:=qS (ps:=ps) (nums:=nums) (S:=cU 0 fun _=>0) hin hpc (Hg _) i
   have won:=wL (ps:=ps) (nums:=nums) (n:=i) (S:=cU 0 fun _=>0)
   have woff:¬(b8 ps nums i (cU 0 fun _=>0)).word = "on" -> b8 ps nums (i+1) (cU 0 fun _=>0)=b8 ps nums i (cU 0 fun _=>0):=fun h=>oF h 1
   generalize b8 ps nums (i+1) (cU 0 fun _=>0)=W1 at won woff ⊢
   generalize b8 ps nums i (cU 0 fun _=>0)=W at A1 wi won woff ⊢
   refine⟨_,rfl,st',_,5,_,rfl,rfl,av.of A1.at_,GC,rfl,_,rfl,?_⟩
   by_cases hw:W.word = "on"
   ·refine cu (by rw [hw];decide +kernel) ?_
    refine⟨_,rfl,_,rfl,_,rfl,plv,st',np,d,tl,bl,ps,nums,W,i,rfl,hp.same s1 (bR ps),hin,s1 _ _ hnp,A1,wi.1,wi.2,(by omega),fun st2 H2 A2 b2=>?_⟩
    exact⟨_,st2,rfl,by rw [won hw];exact A2,fun c o e=>b2 c o (s1 c o e) (aG e hd) (aG e ntl) (aG e nbl)⟩
   ·refine bc (decide_eq_false fun z=>hw (V.str.inj z)) ?_
    exact⟨_,st',rfl,by rw [woff hw];exact A1.mono (HP i),s1⟩
  ·rintro GK H1 ⟨c,st',rfl,A1,s1⟩
   have e1:((n:Int)).toNat=n:=by omega
   rw [e1] at A1
   exact⟨_,rfl,q st' d tl bl H1 A1 s1⟩
theorem vz {f:Addr} {fd:FuncData} (F:b0 K "_law_input" "_law_input" jU f fd) (Z:Bl mg) (O_law_take:Own P w K mg base "_law_take" 1 ["bag", "many"] eN) (O_law_number:Own P w K mg base "_law_number" 2 ["bag"] ky):bp P w K mg base bT 3 f fd ["bag"] uE:=by
  refine F.ok (k:=2) m6 (fun vs H Q E h=>?_) (fun cdv A outer s H vs Q E hr h=>?_)
  . obtain⟨b,rfl,_⟩:=h
    rfl
  . obtain⟨b,rfl,hB,q⟩:=h
    refine⟨_,(ai (aL (i:=1) m6.nd rfl (GN rfl) (aw O_law_take (hr.mono (by decide)) rfl (aa (pv 0) (aa (aI bY (cX (aa ah (aa ah (aa ah ae)))) (aw O_law_take (hr.mono (by decide)) rfl (aa (pv 0) (aa ah ae))) (fun _ _=>rfl)) ae))))
      (ar (aH (br bF rfl Z.tuple cI (aa (de ["k"] ["bag"] [0] rfl (eJ rfl Z.range (aa (pv 1) ae)) rfl (by decide +kernel) (by decide +kernel) (by decide +kernel) ⟨⟨rfl,.inl rfl,rfl⟩,True.intro⟩ (fun _ _ _ _=>(aB (i:=0) (show ((["k"]:List Str)++(["bag"]:List Str)).Nodup by decide +kernel) rfl (GN rfl) (hf:=G6 rfl))) (fun _ _ _ _=>dI) (fun _ _ _ _=>(aw O_law_number (hr.mono (by decide)) rfl (aa (pv 1) ae)))) ae))))),?_⟩
    refine⟨_,rfl,si,fun l0 n0=>?_⟩
    refine⟨_,rfl,b,3,rfl,hB.new n0,⟨by decide,by decide⟩,fun z H1 z0 z1 B1 X1=>?_⟩
    have h0:H1 l0=some (.lst [.int 9,.int 60,.int 201]):=X1 l0 _ af (hB.du n0)
    obtain⟨g,hg,hg3⟩:=Ew (x:=9) (y:=60) (z:=201) z0 z1
    have g0:0<g/\g<1000:=by omega
    refine⟨l0,_,_,_,rfl,rfl,aU.of h0,hg,b,g,rfl,B1,⟨g0.1,dh g0.1 (by omega)⟩,fun m H2 m0 m1 B2 X2=>?_⟩
    have F2:Fix b H H2:=((Fix.new n0).trans X1).trans X2
    refine⟨_,rfl,_,rfl,(by omega),(by omega),fun acc na=>?_⟩
    have hab:acc≠b:=B2.du na
    refine ko (lo:=0) (fun i ys GL H'=>∃(v:Option V) (ns:List Int),GL=[v,some (.ref b)]/\ys=ns.map V.int/\ns.length=i/\H' acc=some (.lst ys)/\bU H' b/\Fix b H2 H') ?_ ?_ ?_ ?_
    . exact⟨none,[],rfl,rfl,rfl,af,B2.new na,Fix.new na⟩
    . rintro i ys GL H4 hi ⟨v,ns,rfl,rfl,hl,ha,_⟩
      exact⟨ha,by rw [GO];exact bE (by omega)⟩
    . rintro i ys GL H4 hi ⟨v,ns,rfl,rfl,hl,ha,B4,X4⟩
      refine cY ?_
      refine gK ?_
      refine bL ?_
      refine⟨_,rfl,b,rfl,B4,fun n H5 nk B5 X5=>?_⟩
      have ha5:=X5 acc _ ha hab
      refine⟨ha5,_,ns++[n],rfl,(by rw [G3];rfl),(by rw [GW,hl];rfl),af,?_,?_⟩
      . obtain⟨x,y,e,z⟩:=B5
        exact⟨x,y,by rw [au hab.symm];exact e,z⟩
      . intro d' o hd nd
        rw [au (aG hd na)]
        exact (X4.trans X5) d' o hd nd
    . rintro ys GL H4 ⟨v,ns,rfl,rfl,hl,ha,B4,X4⟩
      refine⟨acc,_,rfl,.inl ⟨aU.of ha,fun t tn=>?_⟩⟩
      exact q t ns _ af (B4.new tn) ((F2.trans X4).trans (Fix.new tn))
theorem v9 {f:Addr} {fd:FuncData} (F:b0 K "_law_with" "_law_with" lB f fd) (Z:Bl mg)  : bp P w K mg base bT 1 f fd ["facts", "name", "stretch"] wW:=by
 refine F.ok (k:=0) jV (fun vs H Q E h=>?_) (fun cdv A outer s H vs Q E hr h=>?_)
 ·obtain⟨d,T,m,x,sv,s,rfl,_⟩:=h
  rfl
 ·obtain⟨d,T,m,x,sv,s,rfl,lt,hm,sh,q⟩:=h
  refine⟨_,(ai (aL (i:=3) jV.nd rfl (GN rfl) kC)
   (ai (cS (De PassesOwn.never rfl (pv 0) (aB (i:=4) jV.nd rfl (GN rfl))
   (ar (fW (dt hr) (pv 3) (pv 4) (nj (dt hr) (pv 0) (pv 4) (fun _ _=>rfl)) rfl))))
   (ai (cS (dH (uC (pv 3) (pv 1) en ⟨rfl,rfl,rfl,rfl⟩)))
   (ai (aZ (aF (pE hr.units) (pv 2) (aV (aa en (aa en ae))) (aJ _))
   (ar (fW (dt hr) (pv 3) (pv 1) (pv 2) rfl))
   aP)
   (ar (aH (pv 3))))))),?_⟩
  obtain⟨kvs,ks,hd,tb,cl,hl⟩:=lt
  have kl:kvs.length=ks.length:=by have:=congrArg HI tb.keys;simpa using this
  have ndk:(kvs.map (·.1)).Nodup:=by
   rw [tb.keys]
   exact Ic.map _ (fun a b n z=>n (Sum.inr.inj z)) tb.nd
  refine fun md nmd=>?_
  have ndm:d≠md:=aG hd nmd
  refine⟨fun σ' H'=>∃u:Option V,σ' = [some (.ref d),some (.str x),some sv,some (.ref md),u]/\H' md=some (.dK kvs)/\ao H H',?_,?_⟩
  ·refine⟨_,rfl,d,kvs,rfl,(by rw [au ndm];exact hd),fun ob=>⟨fun j GL H2=>∃u:Option V,GL=[some (.ref d),some (.str x),some sv,some (.ref md),u]/\H2 d=some (.eU ob (.dK kvs))/\H2 md=some (.dK (kvs.take j))/\∀c o,H c=some o->c≠d->H2 c=some o,?_,?_,?_,?_⟩⟩
   ·refine⟨none,rfl,af,by rw [au ndm.symm,af];rfl,fun c o e n=>?_⟩
    rw [au n,au (aG e nmd)]
    exact e
   ·rintro j GL H2 ⟨u,_,h,_⟩
    exact h
   ·rintro j k v GL H2 hj ⟨u,rfl,h1,h2,h3⟩
    have hj':j<kvs.length:=(G7.mp hj).1
    refine cY ?_
    have dg:dP H2 d (kV k) (some v):=.inl ⟨kvs,k,.inr ⟨ob,h1⟩,rfl,(AQ ndk (G9 hj)).symm⟩
    refine⟨_,rfl,_,rfl,d,v,rfl,dg,_,rfl,_,rfl,md,_,rfl,hV.k (k:=k) h2 (bE (by rw [Hm];omega)),?_⟩
    refine⟨_,rfl,by rw [au ndm];exact h1,by rw [af,zI ndk hj],fun c o e n=>?_⟩
    rw [au (aG e nmd)]
    exact h3 c o e n
   ·rintro GL H2 ⟨u,rfl,h1,h2,h3⟩
    refine⟨u,rfl,by rw [au ndm.symm,h2,Hr],fun c o e=>?_⟩
    by_cases z:c=d
    ·subst z
     rw [hd] at e
     cases e
     exact af
    ·rw [au z]
     exact h3 c o e z
  rintro σ' H1 ⟨u,rfl,hmd,s1⟩
  have tb1:Tb 0 H1 kvs ks T:=tb.aK fun p xs e=>s1 _ _ e
  have sh1:SH H1 sv s:=sh.aK fun p xs e=>s1 _ _ e
  refine⟨fun σ' H2=>∃(kvs2:List (Key×V)) (ks2:List Str),σ' = [some (.ref d),some (.str x),some sv,some (.ref md),u]/\H2 md=some (.dK kvs2)/\Tb 0 H2 kvs2 ks2 (cm T x cE)/\(∀y∈ks2,cm T x cE y≠cE)/\ks2.length<=m/\ao H H2,
   ⟨_,rfl,md,rfl,.inl ⟨kvs,.inl hmd⟩,_,rfl,kvs,Sum.inr x,hmd,rfl,fun v ev=>?_,fun ev=>?_⟩,?_⟩
  ·refine⟨_,_,rfl,af,(tb1.drop x).aK (fun p xs e=>by rw [au (bN e hmd (by intro z;cases z))];exact e),fun y hy=>?_,GY (HV _ _) hl,s1.put nmd⟩
   obtain⟨h1,h2⟩:=HD.mp hy
   have hne:y≠x:=of_decide_eq_true h2
   unfold cm
   rw [if_neg hne]
   exact cl y h1
  ·have hT:T x=cE:=by
    rcases tb.val x with ⟨_,a,_⟩ | ⟨v,a,_⟩
    ·exact a
    ·rw [ev] at a;cases a
   exact⟨kvs,ks,rfl,hmd,by rw [sP hT];exact tb1,by rw [sP hT];exact cl,hl,s1⟩
  rintro σ' H2 ⟨kvs2,ks2,rfl,hm2,tb2,cl2,hl2,s2⟩
  have kl2:kvs2.length=ks2.length:=by have:=congrArg HI tb2.keys;simpa using this
  refine⟨_,rfl,ln2,fun t nt=>?_⟩
  have s3:=ao.new (o:=.tup [.bC,.bC]) nt
  have ht:(upd H2 t (.tup [.bC,.bC])) t=some (.tup [.bC,.bC]):=af
  generalize (upd H2 t (.tup [.bC,.bC]))=H3 at s3 ht
  have sh3:SH H3 sv s:=sh.aK fun p xs e=>s3 _ _ (s2 _ _ e)
  have tb3:=tb2.aK (H':=H3) fun p xs e=>s3 _ _ e
  have hm3:=s3 _ _ hm2
  refine⟨dS s,.tuple [.none,.none],sh3.rd,.tup ht (.cons .bC (.cons .bC .nil)),ya s,rfl,(by have:=Cr s;omega),_,rfl,?_⟩
  by_cases hs:s=cE
  ·refine bc (by rw [qZ,decide_eq_true hs];rfl) ?_
   subst hs
   exact⟨_,rfl,q md H3 ⟨kvs2,ks2,hm3,tb3,cl2,Hl hl2⟩ (s2.trans s3)⟩
  ·refine cu (by rw [qZ,decide_eq_false hs];rfl) ?_
   refine⟨_,rfl,_,rfl,_,rfl,md,_,rfl,hV.k (k:=Sum.inr x) hm3 (bE (by omega)),?_⟩
   obtain⟨ks4,tb4,k4,m4⟩:=tb3.put x (.inl sh3)
   rw [zH] at tb4
   refine⟨_,rfl,q md _ ⟨_,ks4,af,tb4.aK (fun p xs e=>by rw [au (bN e hm3 (by intro z;cases z))];exact e),fun y hy=>?_,by omega⟩ ((s2.trans s3).put nmd)⟩
   unfold cm
   by_cases e:y=x
   ·rw [if_pos e];exact hs
   ·rw [if_neg e]
    have h1:=cl2 y (((m4 y).mp hy).elim id fun z=>absurd z e)
    unfold cm at h1
    rw [if_neg e] at h1
    exact h1
theorem wa {f:Addr} {fd:FuncData} (F:b0 K "_law_told" "_law_told" lC f fd) (Z:Bl mg)  : bp P w K mg base bT 1 f fd ["facts"] rn:=by
 refine F.ok (k:=0) vS (fun vs H Q E h=>?_) (fun cdv A outer s H vs Q E hr h=>?_)
 ·obtain⟨d,T,rfl,_⟩:=h
  rfl
 ·obtain⟨d,T,rfl,lt,q⟩:=h
  refine⟨_,(ar (aH (br bF rfl Z.tuple cI (aa (de ["name"] ["facts"] [0] rfl (m8 (aQ (jf rfl) rfl Z.sorted gy (aa (pv 0) ae))) rfl (by decide +kernel) (by decide +kernel) (by decide +kernel) ⟨⟨rfl,.inl rfl,rfl⟩,True.intro⟩ (fun _ _ _ _=>(aB (i:=0) (show ((["name"]:List Str)++(["facts"]:List Str)).Nodup by decide +kernel) rfl (GN rfl) (hf:=G6 rfl))) (fun _ _ _ _=>dI) (fun _ _ _ _=>(aV (aa (pv 0) (aa (nj (dt hr) (pv 1) (pv 0) (fun _ _=>rfl)) ae))))) ae)))),?_⟩
  obtain⟨kvs,ks,hd,tb,cl,hl⟩:=lt
  refine⟨_,rfl,d,kvs,ks,rfl,hd,tb.keys,(by omega),fun l ss hp hs hn=>?_⟩
  have srt:ji ss:=⟨mB hs,hp.nodup_iff.mpr tb.nd⟩
  have hl1:(upd H l (.lst (ss.map V.str))) l=some (.lst (ss.map V.str)):=af
  have s1:ao H (upd H l (.lst (ss.map V.str))):=ao.new hn
  have hssl:ss.length<64:=by rw [hp.length_eq];omega
  generalize (upd H l (.lst (ss.map V.str)))=H1 at hl1 s1
  refine⟨l,rfl,⟨_,aU.of hl1⟩,fun acc na=>?_⟩
  refine ng (K:=K) (a:=l) (xs:=ss.map V.str) (fun i ys GL H'=>∃c:Option V,GL=[c,some (.ref d)]/\aX H' ys ((ss.take i).map (dF T))/\H' acc=some (.lst ys)/\ao H1 H') ?_ ?_ ?_ ?_
  ·exact⟨none,rfl,.nil,af,ao.new na⟩
  ·rintro i ys GL H2 hi ⟨c,rfl,r,ha,s2⟩
   refine⟨aU.of (s2 _ _ hl1),ha,?_⟩
   have h1:=r.len
   rw [GO,Hm] at h1
   exact bE (by omega)
  ·rintro i x ys GL H2 hi ⟨c,rfl,r,ha,s2⟩
   obtain⟨y,hy,rfl⟩:∃y,ss[i]?=some y/\x=V.str y:=by
    rw [G8] at hi
    cases e:ss[i]? with
    | none=>rw [e] at hi;cases hi
    | some k=>rw [e] at hi;exact⟨k,rfl,(G5.inj hi).symm⟩
   have hym:y∈ks:=hp.mem_iff.mp (G9 hy)
   have tk:ss.take (i+1)=ss.take i++[y]:=by rw [Hi,hy];rfl
   obtain⟨v,ev,sv⟩:∃v,cg kvs (Sum.inr y)=some v/\SH H v (T y):=by
    rcases tb.val y with ⟨_,_,c⟩ | ⟨v,a,b,_⟩
    ·exact absurd hym c
    ·rcases b with b | ⟨_,b⟩
     ·exact⟨v,a,b⟩
     ·exact absurd b (cl y hym)
   have hd2:H2 d=some (.dK kvs):=s2 _ _ (s1 _ _ hd)
   have dg:dP H2 d (.str y) (some v):=by
    have:=dP.k (k:=Sum.inr y) hd2
    rw [ev] at this
    exact this
   refine cY ?_
   refine gK ?_
   refine bL ?_
   refine⟨_,rfl,_,rfl,_,rfl,d,v,rfl,dg,ln2,fun t nt=>?_⟩
   have s3:=ao.new (o:=.tup [.str y,v]) nt
   have ht:(upd H2 t (.tup [.str y,v])) t=some (.tup [.str y,v]):=af
   generalize (upd H2 t (.tup [.str y,v]))=H3 at s3 ht
   have sh:SH H3 v (T y):=sv.aK fun p xs e=>s3 _ _ (s2 _ _ (s1 _ _ e))
   have ha3:=s3 _ _ ha
   refine⟨ha3,_,rfl,?_,af,(s2.trans s3).put na⟩
   rw [tk,G3]
   refine aX.app ((r.same s3 (gM T _)).put ha3 (gM T _)) ?_
   refine aY.aK (H:=H3) (fun p zs e=>by rw [au (bN e ha3 (by intro z;cases z))];exact e) (.tup ht (.cons (.str y) (.cons sh.rd .nil))) ?_
   have:=gM T [y]
   simpa [cM] using this
  ·rintro ys GL H2 ⟨c,rfl,r,ha,s2⟩
   rw [GO,Hr] at r
   refine⟨acc,ys,rfl,.inl ⟨aU.of ha,fun t nt=>?_⟩⟩
   refine q _ _ ⟨t,ys,ss,rfl,af,srt,fun x=>?_,r.same (ao.new nt) (gM T _)⟩ ((s1.trans s2).trans (ao.new nt))
   rw [hp.mem_iff]
   constructor
   ·exact cl x
   ·intro h
    rcases tb.val x with ⟨_,a,_⟩ | ⟨_,_,_,a⟩
    ·exact absurd a h
    ·exact a
theorem qD {f:Addr} {fd:FuncData} (F:b0 K "_law_table_of" "_law_table_of" ij f fd) (Z:Bl mg)  : bp P w K mg base bT 1 f fd ["facts"] qi:=by
 refine F.ok (k:=0) fG (fun vs H Q E h=>?_) (fun cdv A outer s H vs Q E hr h=>?_)
 ·obtain⟨fv,T,m,rfl,_⟩:=h
  rfl
 ·obtain⟨fv,T,m,rfl,hf,bB,hm,q⟩:=h
  refine⟨_,(ai (aL (i:=1) fG.nd rfl (GN rfl) kC)
   (ai (eM PassesOwn.never rfl (eI (pv 0)) (cG rfl (aM (aB (i:=2) fG.nd rfl (GN rfl)) (aM (aB (i:=3) fG.nd rfl (GN rfl)) cb)))
   (ar (fW (dt hr) (pv 1) (pv 2) (pv 3) rfl)))
   (ar (aH (pv 1))))),?_⟩
  obtain⟨p,xs,ss,rfl,hp,srt,hss,r⟩:=hf
  have hl:=r.len
  rw [GO] at hl
  have hsl:ss.length<=m:=bB ss (fun x hx=>(hss x).mp hx) srt.nd
  refine fun d nd=>?_
  have s0:=ao.new (o:=.dK []) nd
  refine⟨_,rfl,p,rfl,⟨_,av.of (s0 _ _ hp)⟩,gY (K:=K) (a:=p) (xs:=xs) (fun i GK H'=>∃(kvs:List (Key×V)) (ks:List Str) (u1 u2:Option V),GK=[some (.ref p),some (.ref d),u1,u2]/\H' d=some (.dK kvs)/\Tb 0 H' kvs ks (oW T (ss.take i))/\(∀x,x∈ks↔x∈ss.take i)/\ks.length<=i/\ao H H') ?_ ?_ ?_ ?_⟩
  ·refine⟨[],[],_,_,rfl,af,⟨rfl,Iy,fun x=>.inl ⟨rfl,?_,by simp⟩⟩,fun x=>by simp,GQ _,s0⟩
   unfold oW
   rw [if_neg (by simp)]
  ·rintro i GK H1 hi ⟨kvs,ks,u1,u2,rfl,h1,h2,h3,h4,s1⟩
   exact av.of (s1 _ _ hp)
  ·rintro i y GK H1 hi ⟨kvs,ks,u1,u2,rfl,h1,h2,h3,h4,s1⟩
   have hil:i<ss.length:=by have:=(G7.mp hi).1;omega
   have hsi:ss[i]?=some ss[i]:=by simp [hil]
   generalize ss[i]=x at hsi
   obtain⟨v,hv,rv⟩:=r.get (i:=i) (d:=dF T x) (by rw [G8,hsi];rfl)
   rw [hi] at hv
   cases hv
   obtain⟨qa,qvs,rfl,hqa,rq⟩:=aY.bZ rv
   obtain⟨y1,t1,rfl,q1,rq⟩:=rq.cons_inv
   obtain⟨y2,t2,rfl,q2,rq⟩:=rq.cons_inv
   have z:=rq.nil_inv
   subst z
   have ey1:=q1.str_inv
   subst ey1
   refine⟨qa,_,rfl,av.of (s1 _ _ hqa),rfl,_,_,rfl,_,_,rfl,rfl,?_⟩
   have kl:kvs.length=ks.length:=by have:=congrArg HI h2.keys;simpa using this
   obtain⟨sp,rfl,hsp⟩:=Bw q2
   refine⟨_,rfl,_,rfl,_,rfl,d,_,rfl,hV.k (k:=Sum.inr x) h1 (bE (by omega)),?_⟩
   obtain⟨ks2,tb2,kl2,km2⟩:=h2.put x (v:=.ref sp) (s:=T x) (.inl ⟨sp,rfl,s1 _ _ hsp⟩)
   rw [Bu] at tb2
   have htk:ss.take (i+1)=ss.take i++[x]:=by rw [Hi,hsi];rfl
   refine⟨_,ks2,_,_,rfl,af,?_,fun y=>?_,by omega,s1.put nd⟩
   ·rw [htk]
    exact tb2.aK fun p zs e=>by rw [au (bN e h1 (by intro z;cases z))];exact e
   ·rw [km2,h3,htk,Hd,GR]
  ·rintro GK H1 ⟨kvs,ks,u1,u2,rfl,h1,h2,h3,h4,s1⟩
   rw [hl,Hr] at h2 h3
   rw [Bv hss] at h2
   exact⟨_,rfl,q d H1 nd ⟨kvs,ks,h1,h2,fun x hx=>(hss x).mp ((h3 x).mp hx),by omega⟩ s1⟩
theorem lN {f:Addr} {fd:FuncData} (F:b0 K "_law_facts_spoilt" "_law_facts_spoilt" fP f fd) (Z:Bl mg) (O_law_table_of:Own P w K mg base "_law_table_of" 1 ["facts"] qi) (O_law_take:Own P w K mg base "_law_take" 1 ["bag", "many"] eN) (O_law_told:Own P w K mg base "_law_told" 1 ["facts"] rn) (O_law_with:Own P w K mg base "_law_with" 1 ["facts", "name", "stretch"] wW):bp P w K mg base bT 4 f fd ["bag", "facts"] tj:=by
  refine F.ok (k:=3) bx (fun vs H Q E h=>?_) (fun cdv A outer s H vs Q E hr h=>?_)
  . obtain⟨b,fv,T,xs,rfl,_⟩:=h
    rfl
  . obtain⟨b,fv,T,xs,rfl,hB,hf,tok,hzz,h50,q⟩:=h
    refine⟨_,(ai (aL (i:=2) bx.nd rfl (GN rfl) (aw O_law_table_of (hr.mono (by decide)) rfl (aa (pv 1) ae)))
      (ai (aL (i:=3) bx.nd rfl (GN rfl) (ba Ea (aQ (jf rfl) rfl Z.sorted gy (aa (pv 2) ae)) (cX (aa bh ae))))
      (ai (aL (i:=4) bx.nd rfl (GN rfl) (aI bY (pv 3) (aw O_law_take (hr.mono (by decide)) rfl (aa (pv 0) (aa (aQ aO rfl Z.len bJ (aa (pv 3) ae)) ae))) (fun _ _=>rfl)))
      (ai (cN (d8 (dt hr) (pv 2) (pv 4) (aV (aa en (aa en ae))) ⟨rfl,rfl,rfl,rfl⟩) (cG rfl (aM (aB (i:=5) bx.nd rfl (GN rfl)) (aM (aB (i:=6) bx.nd rfl (GN rfl)) cb))))
      (ai (aL (i:=7) bx.nd rfl (GN rfl) (aw O_law_take (hr.mono (by decide)) rfl (aa (pv 0) (aa ah ae))))
      (ai (aZ (aF bw (pv 7) ah (aJ _))
      (ai (dH (uC (pv 2) (pv 4) en ⟨rfl,rfl,rfl,rfl⟩))
      (ar (aH (aw O_law_told (hr.mono (by decide)) rfl (aa (pv 2) ae)))))
      aP)
      (ai (cS (aZ (aF bw (pv 7) ah (aJ _))
      (ar (aL (i:=5) bx.nd rfl (GN rfl) en))
      aP))
      (ai (cS (aZ (aF bw (pv 7) ah (aJ _))
      (ar (aL (i:=6) bx.nd rfl (GN rfl) en))
      aP))
      (ai (cS (aZ (PW.pt (eZ (aF bw (pv 7) ah (aJ _)) (d9 (fH (gu (pv 5))))))
      (ar (aL (i:=5) bx.nd rfl (GN rfl) (ba fb (pv 5) ah)))
      aP))
      (ai (cS (aZ (PW.pt (eZ (aF bw (pv 7) ah (aJ _)) (d9 (fH (gu (pv 6))))))
      (ar (aL (i:=6) bx.nd rfl (GN rfl) (ba cH (pv 6) ah)))
      aP))
      (ai (cS (aZ (aF bw (pv 7) ah (aJ _))
      (ar (lS (i:=5) (j:=6) rfl bx.nd rfl rfl (by decide) rfl rfl (aa ah (aa (ba cH ah (aw O_law_take (hr.mono (by decide)) rfl (aa (pv 0) (aa ah ae)))) ae)) rfl))
      aP))
      (ai (cS (aZ (aF bw (pv 7) ah (aJ _))
      (ar (cN (aI bY (cX (aa (aV (aa ah (aa (ba cH ah (aw O_law_take (hr.mono (by decide)) rfl (aa (pv 0) (aa ah ae)))) ae))) (aa (aV (aa (xt ui ah) (aa (xt ui ah) ae))) ae))) (aw O_law_take (hr.mono (by decide)) rfl (aa (pv 0) (aa ah ae))) (fun _ _=>rfl)) (cG rfl (aM (aB (i:=5) bx.nd rfl (GN rfl)) (aM (aB (i:=6) bx.nd rfl (GN rfl)) cb)))))
      aP))
      (ar (aH (aw O_law_told (hr.mono (by decide)) rfl (aa (aw O_law_with (hr.mono (by decide)) rfl (aa (pv 2) (aa (pv 4) (aa (aV (aa (pv 5) (aa (pv 6) ae))) ae)))) ae)))))))))))))))),?_⟩
    refine⟨_,rfl,fv,T,xs.length,rfl,hf,tok.bB,(by omega),fun d H1 nd lt1 s1=>?_⟩
    have hf1:=hf.same s1
    have B1:=hB.same s1
    obtain⟨kvs,ks,hd,tb,cl,hl⟩:=lt1
    have lt1:LT H1 d T xs.length:=⟨kvs,ks,hd,tb,cl,hl⟩
    refine⟨_,rfl,d,kvs,ks,rfl,hd,tb.keys,(by omega),fun l1 ss hperm hsort nl1=>?_⟩
    have s2:=ao.new (o:=.lst (ss.map V.str)) nl1
    have hl1:(upd H1 l1 (.lst (ss.map V.str))) l1=some (.lst (ss.map V.str)):=af
    generalize (upd H1 l1 (.lst (ss.map V.str)))=H2 at s2 hl1
    have hsl:=hperm.length_eq
    refine⟨nS,fun l2 n2=>⟨l1,l2,_,_,rfl,rfl,ao.new n2 _ _ hl1,af,(by rw [GO];exact Ht (bE (by show _+1<=1000;omega))),fun l3 n3=>?_⟩⟩
    have hl3:(upd (upd H2 l2 (.lst [.str "zz"])) l3 (.lst (ss.map V.str++[.str "zz"]))) l3=some (.lst ((ss++[("zz" : Str)]).map V.str)):=by rw [af,G3];rfl
    have s3:=(ao.new (o:=.lst [.str "zz"]) n2).trans (ao.new (o:=.lst (ss.map V.str++[.str "zz"])) n3)
    generalize (upd (upd H2 l2 (.lst [.str "zz"])) l3 (.lst (ss.map V.str++[.str "zz"])))=H3 at s3 hl3
    have s03:=s1.trans (s2.trans s3)
    have s13:=s2.trans s3
    have B3:=B1.same s13
    have el:(((ss++[("zz" : Str)]).map V.str).length:Int)=ss.length+1:=by simp
    refine⟨_,rfl,_,rfl,_,rfl,l3,_,rfl,.inl (aU.of hl3),b,_,rfl,B3,⟨by omega,dh (by omega) (by omega)⟩,fun r H4 r0 r1 B4 X4=>?_⟩
    have nl3:l3≠b:=by
      obtain⟨x,y',e,_⟩:=B3
      rintro rfl
      rw [hl3] at e
      cases ss <;> simp at e
    obtain⟨x,hx,hxm⟩:=kA (xs:=ss++[("zz" : Str)]) r0 r1
    refine⟨l3,_,r,_,rfl,rfl,aU.of (X4 _ _ hl3 nl3),hx,?_⟩
    have hxp:x∈xs:=by
      rcases Hd.mp hxm with h | h
      . exact tok.sup x (cl x (hperm.mem_iff.mp h))
      . rw [GR.mp h];exact hzz
    have lt4:=(lt1.same s13).fix B3 X4
    have F4:Fix b H H4:=(Fix.of_same s03).trans X4
    obtain⟨kvs,ks,hd,tb,cl,hl⟩:=lt4
    have lt4:LT H4 d T xs.length:=⟨kvs,ks,hd,tb,cl,hl⟩
    refine⟨_,rfl,d,rfl,.inl ⟨kvs,.inl hd⟩,_,rfl,ln2,fun t0 n0=>?_⟩
    have s5:=ao.new (o:=.tup [.bC,.bC]) n0
    have ht0:(upd H4 t0 (.tup [.bC,.bC])) t0=some (.tup [.bC,.bC]):=af
    generalize (upd H4 t0 (.tup [.bC,.bC]))=H5 at s5 ht0
    obtain⟨v,ev,qv,rfl,hqv⟩:=LT.get (tb.aK fun p zs e=>s5 _ _ e) cl ht0 x
    refine⟨_,_,dP.k (k:=Sum.inr x) (s5 _ _ hd),ev,qv,_,rfl,av.of hqv,rfl,_,_,rfl,_,_,rfl,rfl,?_⟩
    have lt5:=lt4.same s5
    have B5:=B4.same s5
    have F5:=F4.trans (Fix.of_same s5)
    have hle:=tok.le x
    generalize T x=s0 at hqv hle
    refine⟨_,rfl,b,7,rfl,B5,⟨by decide,by decide +kernel⟩,fun way H6 w0 w1 B6 X6=>?_⟩
    have lt6:=lt5.fix B5 X6
    have F6:=F5.trans X6
    have ndb:d≠b:=lt6.EF B6
    clear hqv ht0 s5 n0
    refine⟨_,rfl,rfl,_,rfl,?_⟩
    refine cB (fun hc=>?_) (fun hc=>?_)
    . obtain⟨kvs,ks,hd,tb,cl,hl⟩:=lt6
      have cl2:∀(T':Str->Sx) (H7:Hp),cA xs T'->LT H7 d T' xs.length->bU H7 b->Fix b H H7->DC (xE rn [] E0 (iN (uc 2) xD)) { nx:=fun x H'=>Q V.bC H',rt:=Q } [some (.ref b),some fv,some (.ref d),some (.ref l3),some (.str x),some (vO s0.1),some (vO s0.2),some (.int way)] H7:=fun T' H7 a1 a2 a3 a4=>by
        refine⟨_,rfl,d,T',rfl,a2.up (by omega),fun v H8 f8 s8=>?_⟩
        exact q v T' H8 f8 a1 (a3.same s8) (a4.trans (Fix.of_same s8))
      refine⟨_,rfl,d,rfl,.inl ⟨kvs,.inl hd⟩,_,rfl,kvs,Sum.inr x,hd,rfl,fun v ev=>?_,fun ev=>?_⟩
      . have F7:Fix b H (upd H6 d (.dK (eW kvs (Sum.inr x)))):=fun c o e ne=>by
          rw [au (aG e nd)]
          exact F6 c o e ne
        refine cl2 (cm T x cE) _ (tok.set hxp True.intro) ⟨_,_,af,(tb.drop x).aK (fun p zs e=>by rw [au (bN e hd (by intro z;cases z))];exact e),fun y hy=>?_,GY (HV _ _) hl⟩ (B6.put ndb.symm) F7
        obtain⟨h1,h2⟩:=HD.mp hy
        have hne:y≠x:=of_decide_eq_true h2
        unfold cm
        rw [if_neg hne]
        exact cl y h1
      . exact cl2 T H6 tok ⟨kvs,ks,hd,tb,cl,hl⟩ B6 F6
    refine⟨fun σ' H'=>∃s:Sx,σ' = [some (.ref b),some fv,some (.ref d),some (.ref l3),some (.str x),some (vO s.1),some (vO s.2),some (.int way)]/\jA s.1 s.2/\LT H' d T xs.length/\bU H' b/\Fix b H H',?_,?_⟩
    . refine⟨_,rfl,rfl,_,rfl,?_⟩
      refine cB (fun hc=>?_) (fun hc=>?_)
      . exact⟨(none,s0.2),rfl,True.intro,lt6,B6,F6⟩
      . exact⟨s0,rfl,hle,lt6,B6,F6⟩
    rintro σ' H7 ⟨s,rfl,le7,lt7,B7,F7⟩
    refine⟨fun σ' H'=>∃s:Sx,σ' = [some (.ref b),some fv,some (.ref d),some (.ref l3),some (.str x),some (vO s.1),some (vO s.2),some (.int way)]/\jA s.1 s.2/\LT H' d T xs.length/\bU H' b/\Fix b H H',?_,?_⟩
    . refine⟨_,rfl,rfl,_,rfl,?_⟩
      refine cB (fun hc=>?_) (fun hc=>?_)
      . exact⟨(s.1,none),rfl,(by show jA s.1 none;cases s.1 <;> exact True.intro),lt7,B7,F7⟩
      . exact⟨s,rfl,le7,lt7,B7,F7⟩
    rintro σ' H7 ⟨s,rfl,le7,lt7,B7,F7⟩
    refine⟨fun σ' H'=>∃s:Sx,σ' = [some (.ref b),some fv,some (.ref d),some (.ref l3),some (.str x),some (vO s.1),some (vO s.2),some (.int way)]/\jA s.1 s.2/\LT H' d T xs.length/\bU H' b/\Fix b H H',?_,?_⟩
    . refine⟨_,rfl,rfl,_,rfl,?_⟩
      refine cB (fun hc=>?_) (fun hc=>?_)
      . obtain⟨lo,hi⟩:=s
        refine⟨_,rfl,_,rfl,?_⟩
        cases lo with
        | none=>exact bc rfl ⟨(none,hi),rfl,le7,lt7,B7,F7⟩
        | some a =>
          refine cu rfl ?_
          refine⟨_,rfl,_,_,rfl,rfl,?_⟩
          refine⟨(some (a-1),hi),rfl,?_,lt7,B7,F7⟩
          cases hi with
          | none=>exact True.intro
          | some c=>have le7:a<=c:=le7;show a-1<=c;omega
      . exact bO ⟨s,rfl,le7,lt7,B7,F7⟩
    rintro σ' H7 ⟨s,rfl,le7,lt7,B7,F7⟩
    refine⟨fun σ' H'=>∃s:Sx,σ' = [some (.ref b),some fv,some (.ref d),some (.ref l3),some (.str x),some (vO s.1),some (vO s.2),some (.int way)]/\jA s.1 s.2/\LT H' d T xs.length/\bU H' b/\Fix b H H',?_,?_⟩
    . refine⟨_,rfl,rfl,_,rfl,?_⟩
      refine cB (fun hc=>?_) (fun hc=>?_)
      . obtain⟨lo,hi⟩:=s
        refine⟨_,rfl,_,rfl,?_⟩
        cases hi with
        | none=>exact bc rfl ⟨(lo,none),rfl,le7,lt7,B7,F7⟩
        | some a =>
          refine cu rfl ?_
          refine⟨_,rfl,_,_,rfl,rfl,?_⟩
          refine⟨(lo,some (a+1)),rfl,?_,lt7,B7,F7⟩
          cases lo with
          | none=>exact True.intro
          | some c=>have le7:c<=a:=le7;show c<=a+1;omega
      . exact bO ⟨s,rfl,le7,lt7,B7,F7⟩
    rintro σ' H7 ⟨s,rfl,le7,lt7,B7,F7⟩
    refine⟨fun σ' H'=>∃s:Sx,σ' = [some (.ref b),some fv,some (.ref d),some (.ref l3),some (.str x),some (vO s.1),some (vO s.2),some (.int way)]/\jA s.1 s.2/\LT H' d T xs.length/\bU H' b/\Fix b H H',?_,?_⟩
    . refine⟨_,rfl,rfl,_,rfl,?_⟩
      refine cB (fun hc=>?_) (fun hc=>?_)
      . refine⟨_,rfl,b,3,rfl,B7,⟨by decide,by decide +kernel⟩,fun r H8 r0 r1 B8 X8=>⟨_,_,rfl,rfl,?_⟩⟩
        refine⟨_,_,rfl,(some 0,some (1+r)),rfl,(show (0:Int)<=1+r by omega),lt7.fix B7 X8,B8,F7.trans X8⟩
      . exact⟨s,rfl,le7,lt7,B7,F7⟩
    rintro σ' H7 ⟨s,rfl,le7,lt7,B7,F7⟩
    refine⟨fun σ' H'=>∃s:Sx,σ' = [some (.ref b),some fv,some (.ref d),some (.ref l3),some (.str x),some (vO s.1),some (vO s.2),some (.int way)]/\jA s.1 s.2/\LT H' d T xs.length/\bU H' b/\Fix b H H',?_,?_⟩
    . refine⟨_,rfl,rfl,_,rfl,?_⟩
      refine cB (fun hc=>?_) (fun hc=>?_)
      . refine⟨_,rfl,b,3,rfl,B7,⟨by decide,by decide +kernel⟩,fun r H8 r0 r1 B8 X8=>⟨_,_,rfl,rfl,ln2,fun t1 n1=>?_⟩⟩
        refine⟨3,rfl,1,rfl,ln2,fun t2 n2=>⟨ln2,fun l4 n4=>?_⟩⟩
        have q1:=ao.new (o:=.tup [.int 1,.int (1+r)]) n1
        have q2:=ao.new (o:=.tup [.int (-3),.int (-1)]) n2
        have q3:=ao.new (o:=.lst [.ref t1,.ref t2]) n4
        have ht1:=q3 _ _ (q2 _ _ (show (upd H8 t1 (.tup [.int 1,.int (1+r)])) t1=_ from af))
        have ht2:=q3 _ _ (show (upd (upd H8 t1 (.tup [.int 1,.int (1+r)])) t2 (.tup [.int (-3),.int (-1)])) t2=_ from af)
        have hl4:(upd (upd (upd H8 t1 (.tup [.int 1,.int (1+r)])) t2 (.tup [.int (-3),.int (-1)])) l4 (.lst [.ref t1,.ref t2])) l4=some (.lst [.ref t1,.ref t2]):=af
        have q13:=(q1.trans q2).trans q3
        generalize (upd (upd (upd H8 t1 (.tup [.int 1,.int (1+r)])) t2 (.tup [.int (-3),.int (-1)])) l4 (.lst [.ref t1,.ref t2]))=H9 at ht1 ht2 hl4 q13
        have B9:=B8.same q13
        have lt9:=(lt7.fix B7 X8).same q13
        have F9:=(F7.trans X8).trans (Fix.of_same q13)
        refine⟨_,rfl,b,2,rfl,B9,⟨by decide,by decide +kernel⟩,fun r2 H10 r20 r21 B10 X10=>?_⟩
        have nl4:l4≠b:=by
          obtain⟨x',y',e,_⟩:=B9
          rintro rfl
          rw [hl4] at e
          simp at e
        have hl10:=X10 _ _ hl4 nl4
        have lt10:=lt9.fix B9 X10
        have F10:=F9.trans X10
        obtain rfl | rfl:r2=0\/r2=1:=by omega
        . refine⟨l4,_,0,_,rfl,rfl,aU.of hl10,bW,t1,_,rfl,av.of (X10 _ _ ht1 (B9.bI ht1)),rfl,_,_,rfl,_,_,rfl,rfl,?_⟩
          exact⟨(some 1,some (1+r)),rfl,(show (1:Int)<=1+r by omega),lt10,B10,F10⟩
        . refine⟨l4,_,1,_,rfl,rfl,aU.of hl10,cR,t2,_,rfl,av.of (X10 _ _ ht2 (B9.bI ht2)),rfl,_,_,rfl,_,_,rfl,rfl,?_⟩
          exact⟨(some (-3),some (-1)),rfl,(show (-3:Int) <= -1 by decide),lt10,B10,F10⟩
      . exact⟨s,rfl,le7,lt7,B7,F7⟩
    rintro σ' H7 ⟨s,rfl,le7,lt7,B7,F7⟩
    refine⟨_,rfl,_,rfl,_,rfl,_,rfl,ln2,fun t1 n1=>?_⟩
    have s8:=ao.new (o:=.tup [vO s.1,vO s.2]) n1
    refine⟨d,T,xs.length,x,.ref t1,s,rfl,lt7.same s8,(by omega),⟨t1,rfl,af⟩,fun d2 H9 lt9 s9=>?_⟩
    have s79:=s8.trans s9
    refine⟨d2,_,rfl,lt9.up (by omega),fun v H10 f10 s10=>?_⟩
    have s710:=s79.trans s10
    exact q v _ H10 f10 (tok.set hxp le7) (B7.same s710) (F7.trans (Fix.of_same s710))
theorem nL {f:Addr} {fd:FuncData} (F:b0 K "_law_end_spoilt" "_law_end_spoilt" gr f fd) (Z:Bl mg) (O_law_take:Own P w K mg base "_law_take" 1 ["bag", "many"] eN):bp P w K mg base bT 3 f fd ["bag", "end", "count"] tw:=by
  refine F.ok (k:=2) fZ (fun vs H Q E h=>?_) (fun cdv A outer s H vs Q E hr h=>?_)
  . obtain⟨b,ea,e,c,rfl,_⟩:=h
    rfl
  . obtain⟨b,ea,e,c,rfl,hB,he,hlay,hw,hc0,hc,q⟩:=h
    refine⟨_,(ai (aL (i:=3) fZ.nd rfl (GN rfl) (aw O_law_take (hr.mono (by decide)) rfl (aa (pv 0) (aa ah ae))))
      (ai (aZ (aF bw (pv 3) ah (aJ _))
      (ar (aH (aI bY (cX (aa (aV (aa bh ae)) (aa (aV (aa bh (aa (aw O_law_take (hr.mono (by decide)) rfl (aa (pv 0) (aa (pv 2) ae))) ae))) ae))) (aw O_law_take (hr.mono (by decide)) rfl (aa (pv 0) (aa ah ae))) (fun _ _=>rfl))))
      aP)
      (ai (aZ (PW.pt (eZ (aF bw (pv 3) ah (aJ _)) (d9 (aF bw (aQ aO rfl Z.len bJ (aa (pv 1) ae)) ah (aJ _)))))
      (ar (aH (aV (aa bh (aa (aI aN (pv 1) (ba cH ah (aw O_law_take (hr.mono (by decide)) rfl (aa (pv 0) (aa ah ae)))) (fun _ _=>rfl)) ae)))))
      aP)
      (ai (aZ (PW.pt (eZ (aF bw (pv 3) ah (aJ _)) (d9 (aF bw (aQ aO rfl Z.len bJ (aa (pv 1) ae)) ah (aJ _)))))
      (ar (aH (aV (aa (aI aN (pv 1) ah (fun _ _=>rfl)) (aa (aI aN (pv 1) ah (fun _ _=>rfl)) (aa (ba fb (ba cH (aI aN (pv 1) ah (fun _ _=>rfl)) ah) (ba iy ah (aw O_law_take (hr.mono (by decide)) rfl (aa (pv 0) (aa ah ae))))) (aa (aI aN (pv 1) ah (fun _ _=>rfl)) (aa (aI aN (pv 1) ah (fun _ _=>rfl)) ae))))))))
      aP)
      (ai (aZ (PW.pt (eZ (aF bw (pv 3) ah (aJ _)) (d9 (aF bw (aQ aO rfl Z.len bJ (aa (pv 1) ae)) ah (aJ _)))))
      (ar (aH (aV (aa bh (aa bh (aa ah (aa (aI aN (pv 1) ah (fun _ _=>rfl)) (aa (aw O_law_take (hr.mono (by decide)) rfl (aa (pv 0) (aa (pv 2) ae))) ae))))))))
      aP)
      (ai (aZ (aF bw (aQ aO rfl Z.len bJ (aa (pv 1) ae)) ah (aJ _))
      (ar (aH (aV (aa bh (aa (aw O_law_take (hr.mono (by decide)) rfl (aa (pv 0) (aa (pv 2) ae))) ae)))))
      aP)
      (ai (aL (i:=4) fZ.nd rfl (GN rfl) (ba fb (ba fb (aQ aO rfl Z.len bJ (aa (pv 1) ae)) ah) (aw O_law_take (hr.mono (by decide)) rfl (aa (pv 0) (aa (ba cH ah (br jv rfl Z.int pA (aa (ef bw (aQ aO rfl Z.len bJ (aa (pv 1) ae)) ah (aJ _)) ae))) ae)))))
      (ar (aH (ba j7 (ba j7 (gZ iU (pv 1) iS (iT (pv 4))) (aV (aa (aw O_law_take (hr.mono (by decide)) rfl (aa (pv 0) (aa (pv 2) ae))) ae))) (gZ iU (pv 1) (iT (ba cH (pv 4) ah)) iS))))))))))),?_⟩
    refine⟨_,rfl,b,5,rfl,hB,⟨by decide,by decide +kernel⟩,fun way H1 w0 w1 B1 X1=>?_⟩
    have he1:=X1 _ _ he (hB.bI he)
    refine⟨_,rfl,rfl,_,rfl,?_⟩
    refine cB (fun hc'=>?_) (fun hc'=>?_)
    . refine⟨nS,fun t1 n1=>?_⟩
      refine⟨_,rfl,_,rfl,b,c,rfl,B1.new n1,⟨by omega,dh (by omega) (by omega)⟩,fun r H2 r0 r1 B2 X2=>⟨ln2,fun t2 n2=>⟨ln2,fun l nl=>?_⟩⟩⟩
      have F2:Fix b H1 H2:=(Fix.new n1).trans X2
      have ht1:=X2 _ _ (af (H:=H1) (a:=t1) (o:=.tup [.str "stop"])) (B1.du n1)
      have q2:=ao.new (o:=.tup [.str "go",.int r]) n2
      have q3:=ao.new (o:=.lst [.ref t1,.ref t2]) nl
      refine⟨_,rfl,b,2,rfl,(B2.new n2).new nl,⟨by decide,by decide +kernel⟩,fun z H3 z0 z1 B3 X3=>?_⟩
      have F3:Fix b H H3:=(X1.trans F2).trans ((Fix.of_same (q2.trans q3)).trans X3)
      have B2':=(B2.new (o:=.tup [.str "go",.int r]) n2).new (o:=.lst [.ref t1,.ref t2]) nl
      have hl:=X3 l _ af ((B2.new (o:=.tup [.str "go",.int r]) n2).du nl)
      have h1:=X3 _ _ (q3 _ _ (q2 _ _ ht1)) (B2'.bI (q3 _ _ (q2 _ _ ht1)))
      have h2:=X3 _ _ (q3 _ _ af) (B2'.bI (q3 _ _ af))
      obtain⟨k,rfl⟩:∃k:Nat,r=k:=⟨r.toNat,by omega⟩
      obtain rfl | rfl:z=0\/z=1:=by omega
      . refine⟨l,_,_,_,rfl,rfl,aU.of hl,bW,?_⟩
        exact q t1 .stop H3 h1 BD (fun k hk=>nomatch hk) B3 F3
      . refine⟨l,_,_,_,rfl,rfl,aU.of hl,cR,?_⟩
        exact q t2 (.go k) H3 h2 (qt k) (fun j hj=>by rw [GR.mp hj];omega) B3 F3
    refine⟨_,rfl,rfl,_,rfl,?_⟩
    refine ki ?_ (fun rest hc'=>?_)
    rotate_left
    . refine⟨_,rfl,ea,_,rfl,.inr (av.of he1),rfl,_,rfl,?_⟩
      refine cB (fun hd=>?_) (fun hd=>rest)
      cases e with
      | stop=>exact absurd (of_decide_eq_true hd) (by show ¬V.int 1=V.int 5;decide)
      | go p=>exact absurd (of_decide_eq_true hd) (by show ¬V.int 2=V.int 5;decide)
      | bu b' x n p r =>
        refine⟨_,rfl,_,rfl,b,2,rfl,B1,⟨by decide,by decide +kernel⟩,fun z H2 z0 z1 B2 X2=>?_⟩
        have he2:=X2 _ _ he1 (B1.bI he1)
        have F2:Fix b H H2:=X1.trans X2
        obtain⟨k,hk,hkc⟩:∃k:Nat,eV (cx (.bu b' x n p r)) (3+z)=some (V.int (k:Nat))/\k<c:=by
          obtain rfl | rfl:z=0\/z=1:=by omega
          . exact⟨p,rfl,hw p (GZ ..)⟩
          . exact⟨r,rfl,hw r (G1 _ (GZ ..))⟩
        refine⟨_,_,rfl,rfl,ea,_,_,_,rfl,rfl,av.of he2,hk,ln2,fun t nt=>?_⟩
        exact q t (.go k) _ af (qt k) (fun j hj=>by rw [GR.mp hj];exact hkc) (B2.new nt) (F2.trans (Fix.new nt))
    refine⟨_,rfl,rfl,_,rfl,?_⟩
    refine ki ?_ (fun rest hc'=>?_)
    rotate_left
    . refine⟨_,rfl,ea,_,rfl,.inr (av.of he1),rfl,_,rfl,?_⟩
      refine cB (fun hd=>?_) (fun hd=>rest)
      cases e with
      | stop=>exact absurd (of_decide_eq_true hd) (by show ¬V.int 1=V.int 5;decide)
      | go p=>exact absurd (of_decide_eq_true hd) (by show ¬V.int 2=V.int 5;decide)
      | bu b' x n p r =>
        refine⟨_,rfl,ea,_,0,_,rfl,rfl,av.of he1,bW,_,rfl,ea,_,1,_,rfl,rfl,av.of he1,cR,_,rfl,ea,_,2,_,rfl,rfl,av.of he1,at2,_,_,rfl,rfl,?_⟩
        refine⟨_,rfl,b,2,rfl,B1,⟨by decide,by decide +kernel⟩,fun z H2 z0 z1 B2 X2=>?_⟩
        have he2:=X2 _ _ he1 (B1.bI he1)
        refine⟨_,_,rfl,rfl,(by first | exact .inl ⟨by decide,by decide⟩ | exact .inr ⟨by decide,by decide⟩),_,_,rfl,rfl,_,rfl,ea,_,3,_,rfl,rfl,av.of he2,Gv,_,rfl,ea,_,4,_,rfl,rfl,av.of he2,GB,Ec,fun t nt=>?_⟩
        exact q t (.bu b' x (n+1-2*z) p r) _ af (nF (jq hlay)) hw (B2.new nt) ((X1.trans X2).trans (Fix.new nt))
    refine⟨_,rfl,rfl,_,rfl,?_⟩
    refine ki ?_ (fun rest hc'=>?_)
    rotate_left
    . refine⟨_,rfl,ea,_,rfl,.inr (av.of he1),rfl,_,rfl,?_⟩
      refine cB (fun hd=>?_) (fun hd=>rest)
      cases e with
      | stop=>exact absurd (of_decide_eq_true hd) (by show ¬V.int 1=V.int 2;decide)
      | bu b' x n p r=>exact absurd (of_decide_eq_true hd) (by show ¬V.int 5=V.int 2;decide)
      | go p =>
        refine⟨_,rfl,ea,_,1,_,rfl,rfl,av.of he1,cR,_,rfl,_,rfl,b,c,rfl,B1,⟨by omega,dh (by omega) (by omega)⟩,fun z H2 z0 z1 B2 X2=>⟨Ec,fun t nt=>?_⟩⟩
        obtain⟨k,rfl⟩:∃k:Nat,z=k:=⟨z.toNat,by omega⟩
        refine q t (.bu true "zz" 0 p k) _ af (nF (by decide +kernel)) (fun j hj=>?_) (B2.new nt) ((X1.trans X2).trans (Fix.new nt))
        rcases GS.mp hj with rfl | hj
        . exact hw _ (GR.mpr rfl)
        . rw [GR.mp hj];omega
    refine⟨_,rfl,ea,_,rfl,.inr (av.of he1),rfl,_,rfl,?_⟩
    refine cB (fun hd=>?_) (fun hd=>?_)
    . refine⟨_,rfl,_,rfl,b,c,rfl,B1,⟨by omega,dh (by omega) (by omega)⟩,fun z H2 z0 z1 B2 X2=>⟨ln2,fun t nt=>?_⟩⟩
      obtain⟨k,rfl⟩:∃k:Nat,z=k:=⟨z.toNat,by omega⟩
      exact q t (.go k) _ af (qt k) (fun j hj=>by rw [GR.mp hj];omega) (B2.new nt) ((X1.trans X2).trans (Fix.new nt))
    cases e with
    | stop=>exact absurd (decide_eq_true rfl) hd
    | go p =>
      refine⟨_,rfl,ea,_,rfl,.inr (av.of he1),_,_,rfl,rfl,?_⟩
      refine⟨_,rfl,_,rfl,ea,_,rfl,.inr (av.of he1),rfl,.inr ⟨_,rfl,_,_,rfl,rfl,b,1,rfl,B1,⟨by decide,by decide +kernel⟩,fun z H2 z0 z1 B2 X2=>?_⟩⟩
      have he2:=X2 _ _ he1 (B1.bI he1)
      obtain rfl:z=0:=by omega
      refine⟨_,_,rfl,rfl,?_⟩
      refine⟨_,rfl,_,rfl,1,rfl,ea,_,rfl,av.of he2,fun hw'=>absurd hw'.2 (by show ¬HT.bP 2 2 (some 1)=2;decide),fun _ p1 np1=>?_⟩
      have h1:(upd H2 p1 (.tup (cP (cx (.go p)) none (some 1)))) p1=some (.tup [.str "go"]):=af
      have s1:=ao.new (o:=.tup (cP (cx (.go p)) none (some 1))) np1
      have B21:=B2.new (o:=.tup (cP (cx (.go p)) none (some 1))) np1
      change (_:Hp->Prop) (upd H2 p1 (.tup (cP (cx (.go p)) none (some 1))))
      generalize (upd H2 p1 (.tup (cP (cx (.go p)) none (some 1))))=H3 at h1 s1 B21 ⊢
      refine⟨_,rfl,_,rfl,b,c,rfl,B21,⟨by omega,dh (by omega) (by omega)⟩,fun y H4 y0 y1 B4 X4=>⟨nS,fun t1 n1=>?_⟩⟩
      obtain⟨k,rfl⟩:∃k:Nat,y=k:=⟨y.toNat,by omega⟩
      have s4:=ao.new (o:=.tup [.int (k:Int)]) n1
      refine⟨p1,t1,_,_,rfl,rfl,s4 _ _ (X4 _ _ h1 (B21.bI h1)),af,(by show 1+1<=sizeLine;decide),fun t2 H5 ht2 s5=>?_⟩
      have X25:Fix b H2 H5:=((Fix.of_same s1).trans X4).trans (Fix.of_same (s4.trans s5))
      have he5:=X25 _ _ he2 (B2.bI he2)
      have B5:=(B4.new (o:=.tup [.int (k:Int)]) n1).same s5
      refine⟨_,rfl,_,rfl,_,_,rfl,rfl,2,rfl,ea,_,rfl,av.of he5,fun hw'=>absurd hw'.1 (by show ¬HT.bP 2 0 (some 2)=0;decide),fun _ p3 np3=>?_⟩
      have s6:=ao.new (o:=.tup (cP (cx (.go p)) (some 2) none)) np3
      refine⟨t2,p3,_,_,rfl,rfl,s6 _ _ ht2,af,(by show 2<=sizeLine;decide),fun t H7 ht s7=>?_⟩
      exact q t (.go k) H7 ht (qt k) (fun j hj=>by rw [GR.mp hj];omega) ((B5.same s6).same s7) ((X1.trans X2).trans (X25.trans (Fix.of_same (s6.trans s7))))
    | bu b' x n p r =>
      refine⟨_,rfl,ea,_,rfl,.inr (av.of he1),_,_,rfl,rfl,?_⟩
      refine⟨_,rfl,_,rfl,ea,_,rfl,.inr (av.of he1),rfl,.inr ⟨_,rfl,_,_,rfl,rfl,b,2,rfl,B1,⟨by decide,by decide +kernel⟩,fun z H2 z0 z1 B2 X2=>?_⟩⟩
      have he2:=X2 _ _ he1 (B1.bI he1)
      refine⟨_,_,rfl,rfl,?_⟩
      obtain rfl | rfl:z=0\/z=1:=by omega
      . skip
        refine⟨_,rfl,_,rfl,4,rfl,ea,_,rfl,av.of he2,fun hw'=>absurd hw'.2 (by show ¬HT.bP 5 5 (some 4)=5;decide),fun _ p1 np1=>?_⟩
        have h1:(upd H2 p1 (.tup (cP (cx (.bu b' x n p r)) none (some 4)))) p1=some (.tup [.str (wT b'),.str x,.int n,.int (p:Nat)]):=af
        have s1:=ao.new (o:=.tup (cP (cx (.bu b' x n p r)) none (some 4))) np1
        have B21:=B2.new (o:=.tup (cP (cx (.bu b' x n p r)) none (some 4))) np1
        change (_:Hp->Prop) (upd H2 p1 (.tup (cP (cx (.bu b' x n p r)) none (some 4))))
        generalize (upd H2 p1 (.tup (cP (cx (.bu b' x n p r)) none (some 4))))=H3 at h1 s1 B21 ⊢
        refine⟨_,rfl,_,rfl,b,c,rfl,B21,⟨by omega,dh (by omega) (by omega)⟩,fun y H4 y0 y1 B4 X4=>⟨nS,fun t1 n1=>?_⟩⟩
        obtain⟨k,rfl⟩:∃k:Nat,y=k:=⟨y.toNat,by omega⟩
        have s4:=ao.new (o:=.tup [.int (k:Int)]) n1
        refine⟨p1,t1,_,_,rfl,rfl,s4 _ _ (X4 _ _ h1 (B21.bI h1)),af,(by show 4+1<=sizeLine;decide),fun t2 H5 ht2 s5=>?_⟩
        have X25:Fix b H2 H5:=((Fix.of_same s1).trans X4).trans (Fix.of_same (s4.trans s5))
        have he5:=X25 _ _ he2 (B2.bI he2)
        have B5:=(B4.new (o:=.tup [.int (k:Int)]) n1).same s5
        refine⟨_,rfl,_,rfl,_,_,rfl,rfl,5,rfl,ea,_,rfl,av.of he5,fun hw'=>absurd hw'.1 (by show ¬HT.bP 5 0 (some 5)=0;decide),fun _ p3 np3=>?_⟩
        have s6:=ao.new (o:=.tup (cP (cx (.bu b' x n p r)) (some 5) none)) np3
        refine⟨t2,p3,_,_,rfl,rfl,s6 _ _ ht2,af,(by show 5<=sizeLine;decide),fun t H7 ht s7=>?_⟩
        refine q t (.bu b' x n p k) H7 ht (nF (jq hlay)) (fun j hj=>?_) ((B5.same s6).same s7) ((X1.trans X2).trans (X25.trans (Fix.of_same (s6.trans s7))))
        rcases GS.mp hj with rfl | hj
        . exact hw _ (GZ ..)
        . rw [GR.mp hj];omega
      . skip
        refine⟨_,rfl,_,rfl,3,rfl,ea,_,rfl,av.of he2,fun hw'=>absurd hw'.2 (by show ¬HT.bP 5 5 (some 3)=5;decide),fun _ p1 np1=>?_⟩
        have h1:(upd H2 p1 (.tup (cP (cx (.bu b' x n p r)) none (some 3)))) p1=some (.tup [.str (wT b'),.str x,.int n]):=af
        have s1:=ao.new (o:=.tup (cP (cx (.bu b' x n p r)) none (some 3))) np1
        have B21:=B2.new (o:=.tup (cP (cx (.bu b' x n p r)) none (some 3))) np1
        change (_:Hp->Prop) (upd H2 p1 (.tup (cP (cx (.bu b' x n p r)) none (some 3))))
        generalize (upd H2 p1 (.tup (cP (cx (.bu b' x n p r)) none (some 3))))=H3 at h1 s1 B21 ⊢
        refine⟨_,rfl,_,rfl,b,c,rfl,B21,⟨by omega,dh (by omega) (by omega)⟩,fun y H4 y0 y1 B4 X4=>⟨nS,fun t1 n1=>?_⟩⟩
        obtain⟨k,rfl⟩:∃k:Nat,y=k:=⟨y.toNat,by omega⟩
        have s4:=ao.new (o:=.tup [.int (k:Int)]) n1
        refine⟨p1,t1,_,_,rfl,rfl,s4 _ _ (X4 _ _ h1 (B21.bI h1)),af,(by show 3+1<=sizeLine;decide),fun t2 H5 ht2 s5=>?_⟩
        have X25:Fix b H2 H5:=((Fix.of_same s1).trans X4).trans (Fix.of_same (s4.trans s5))
        have he5:=X25 _ _ he2 (B2.bI he2)
        have B5:=(B4.new (o:=.tup [.int (k:Int)]) n1).same s5
        refine⟨_,rfl,_,rfl,_,_,rfl,rfl,4,rfl,ea,_,rfl,av.of he5,fun hw'=>absurd hw'.1 (by show ¬HT.bP 5 0 (some 4)=0;decide),fun _ p3 np3=>?_⟩
        have s6:=ao.new (o:=.tup (cP (cx (.bu b' x n p r)) (some 4) none)) np3
        refine⟨t2,p3,_,_,rfl,rfl,s6 _ _ ht2,af,(by show 5<=sizeLine;decide),fun t H7 ht s7=>?_⟩
        refine q t (.bu b' x n k r) H7 ht (nF (jq hlay)) (fun j hj=>?_) ((B5.same s6).same s7) ((X1.trans X2).trans (X25.trans (Fix.of_same (s6.trans s7))))
        rcases GS.mp hj with rfl | hj
        . omega
        . rw [GR.mp hj];exact hw _ (G1 _ (GZ ..))
theorem lO {f:Addr} {fd:FuncData} (F:b0 K "_law_other_spoilt" "_law_other_spoilt" fQ f fd) (Z:Bl mg) (O_law_take:Own P w K mg base "_law_take" 1 ["bag", "many"] eN) (O_law_end_spoilt:Own P w K mg base "_law_end_spoilt" 3 ["bag", "end", "count"] tw):bp P w K mg base bT 4 f fd ["bag", "other"] tD:=by
  refine F.ok (k:=3) bS (fun vs H Q E h=>?_) (fun cdv A outer s H vs Q E hr h=>?_)
  . obtain⟨b,qlv,qs,rfl,_⟩:=h
    rfl
  . obtain⟨b,qlv,qs,rfl,hB,hq,hin,hlay,hdlen,h0,hn,q⟩:=h
    refine⟨_,(ai (aL (i:=2) bS.nd rfl (GN rfl) (br jb rfl Z.list qJ (aa (pv 1) ae)))
      (ai (aL (i:=3) bS.nd rfl (GN rfl) (aw O_law_take (hr.mono (by decide)) rfl (aa (pv 0) (aa (aQ aO rfl Z.len bJ (aa (pv 2) ae)) ae))))
      (ai (cN (aI bY (pv 2) (pv 3) (fun _ _=>rfl)) (cG rfl (aM (aB (i:=4) bS.nd rfl (GN rfl)) (aM (aB (i:=5) bS.nd rfl (GN rfl)) cb))))
      (ai (aL (i:=6) bS.nd rfl (GN rfl) (aw O_law_take (hr.mono (by decide)) rfl (aa (pv 0) (aa ah ae))))
      (ai (cS (aZ (PW.pt (eZ (aF bw (pv 6) ah (aJ _)) (d9 (aF (pE hr.units) (pv 4) (aV ae) (aJ _)))))
      (ai (aL (i:=7) bS.nd rfl (GN rfl) (aw O_law_take (hr.mono (by decide)) rfl (aa (pv 0) (aa (aQ aO rfl Z.len bJ (aa (pv 4) ae)) ae))))
      (ar (aL (i:=4) bS.nd rfl (GN rfl) (ba j7 (gZ iU (pv 4) iS (iT (pv 7))) (gZ iU (pv 4) (iT (ba cH (pv 7) ah)) iS)))))
      (ar (aZ (PW.pt (eZ (aF bw (pv 6) ah (aJ _)) (d9 (aF gH (aQ aO rfl Z.len bJ (aa (pv 4) ae)) ah (aJ _)))))
      (ar (aL (i:=4) bS.nd rfl (GN rfl) (ba j7 (pv 4) (aV (aa (aV (aa bh (aa bh ae))) ae)))))
      (ar (aL (i:=5) bS.nd rfl (GN rfl) (aw O_law_end_spoilt (hr.mono (by decide)) rfl (aa (pv 0) (aa (pv 5) (aa (aQ aO rfl Z.len bJ (aa (pv 2) ae)) ae))))))))))
      (ai (kh (aV (aa (pv 4) (aa (pv 5) ae))) (gG (pv 2) (pv 3) set_list))
      (ar (aH (br bF rfl Z.tuple cI (aa (pv 2) ae)))))))))),?_⟩
    obtain⟨qp,ws,rfl,hqp,rws⟩:=aY.bZ (show aY H qlv (.tuple (qs.map dY)) from hq)
    have hwl:ws.length=qs.length:=by have:=rws.len;rw [GO] at this;exact this
    refine⟨_,rfl,qp,_,rfl,.inr (av.of hqp),fun so nso=>?_⟩
    have s1:=ao.new (o:=.lst ws) nso
    have hso:(upd H so (.lst ws)) so=some (.lst ws):=af
    change (_:Hp->Prop) (upd H so (.lst ws))
    generalize (upd H so (.lst ws))=H1 at s1 hso ⊢
    have B1:=hB.same s1
    have nsb:so≠b:=hB.du nso
    refine⟨_,rfl,_,rfl,so,_,rfl,.inl (aU.of hso),b,_,rfl,B1,⟨by omega,dh (by omega) (by omega)⟩,fun r H2 r0 r1 B2 X2=>?_⟩
    obtain⟨k,rfl⟩:∃k:Nat,r=k:=⟨r.toNat,by omega⟩
    have hk:k<qs.length:=by omega
    have hqk:qs[k]?=some qs[k]:=by simp [hk]
    generalize qs[k]=pc at hqk
    obtain⟨ds,e⟩:=pc
    obtain⟨p',xs',qc,da,ea,wd,ep,e1',el',hx',e2,e3,r3,e4⟩:=fK hq hqk
    cases ep
    rw [hqp] at e1'
    cases e1'
    have kp:∀p zs,H p=some (.tup zs)->H2 p=some (.tup zs):=fun p zs e=>X2 p _ (s1 _ _ e) (B1.bI (s1 _ _ e))
    have hso2:=X2 _ _ hso nsb
    refine⟨_,rfl,_,rfl,so,_,_,_,rfl,rfl,aU.of hso2,bA hx',qc,_,rfl,av.of (kp _ _ e2),rfl,_,_,rfl,_,_,rfl,rfl,?_⟩
    refine⟨_,rfl,b,5,rfl,B2,⟨by decide,by decide +kernel⟩,fun way H3 w0 w1 B3 X3=>?_⟩
    have kp3:∀p zs,H p=some (.tup zs)->H3 p=some (.tup zs):=fun p zs e=>X3 p _ (kp _ _ e) (B2.bI (kp _ _ e))
    have F3:Fix b H H3:=((Fix.of_same s1).trans X2).trans X3
    have hso3:=X3 _ _ hso2 nsb
    have hda3:=kp3 _ _ e3
    have hea3:=kp3 _ _ e4
    have rd3:=r3.aK kp3 (bH ds)
    have hly:=hlay _ (G9 hqk)
    have hwy:∀w∈aR e,w<qs.length:=fun w hw=>rF hin (G9 hqk) hw
    have kt0:∀p zs,H p=some (.tup zs)->H3 p=some (.tup zs):=kp3
    clear B2 X2 hso2 kp
    refine⟨fun σ' H'=>∃(da' ea':Addr) (wd':List V) (ds':List cf) (e':L2.End) (u7:Option V),σ' = [some (.ref b),some (.ref qp),some (.ref so),some (.int (k:Nat)),some (.ref da'),some (.ref ea'),some (.int way),u7]/\H' da' = some (.tup wd')/\aX H' wd' (ds'.map bG)/\H' ea' = some (.tup (cx e'))/\(PyData.tuple (ds'.map bG)).canLay0=true/\ds'.length<=12/\(eD e').canLay0=true/\(∀w∈aR e',w<qs.length)/\bU H' b/\Fix b H H'/\H' so=some (.lst ws)/\∀p zs,H p=some (.tup zs)->H' p=some (.tup zs),?_,?_⟩
    . refine⟨_,rfl,rfl,_,rfl,?_⟩
      refine Dt (H3:=H3) (fun H4 s34=>?_) (fun rest hc=>?_)
      rotate_left
      . refine⟨_,rfl,(by show 0<=sizeLine;decide),fun t0 n0=>?_⟩
        have s0:=ao.new (o:=.tup []) n0
        have dep0:=(kN hly.1).dep
        have depE:(PyData.tuple ([]:List PyData)).depth<=1:=GQ 1
        refine⟨_,_,.tup (s0 _ _ hda3) (rd3.same s0 (bH ds)),.tup af .nil,hly.1,rfl,(by omega),_,rfl,?_⟩
        refine cB (fun hd=>?_) (fun hd=>rest _ s0)
        have hwl':wd.length=ds.length:=by have:=rd3.len;rw [GO] at this;exact this
        have hds:0<ds.length:=by
          cases ds with
          | nil=>exact absurd hd (by decide)
          | cons d ds=>exact Nat.succ_pos _
        have B4:=B3.same s0
        have hda4:=s0 _ _ hda3
        change (_:Hp->Prop) (upd H3 t0 (.tup []))
        generalize (upd H3 t0 (.tup []))=H4 at s0 B4 hda4 ⊢
        have hdl:ds.length<=12:=hdlen _ (G9 hqk)
        refine⟨_,rfl,_,rfl,da,_,rfl,.inr (av.of hda4),b,_,rfl,B4,⟨by omega,dh (by omega) (by omega)⟩,fun r H6 r0' r1' B6 X6=>?_⟩
        obtain⟨m,rfl⟩:∃m:Nat,r=m:=⟨r.toNat,by omega⟩
        have hm:m<wd.length:=by omega
        have X36:Fix b H3 H6:=(Fix.of_same s0).trans X6
        have hda6:=X6 _ _ hda4 (B4.bI hda4)
        have hea6:=X36 _ _ hea3 (B3.bI hea3)
        have rd6:=rd3.aK (fun p zs e=>X36 _ _ e (B3.bI e)) (bH ds)
        obtain⟨d1,c1,c2⟩:=zY rd6 none (some (m:Int))
        obtain⟨d2,c3,c4⟩:=zY rd6 (some ((m+1:Nat):Int)) none
        have hlen:=BF hm
        have l1:=c1.len
        have l2:=c3.len
        rw [GO] at l1 l2
        refine⟨_,rfl,_,rfl,(m:Int),rfl,da,_,rfl,av.of hda6,fun hw'=>absurd hw'.2 (by rw [HT.j1];omega),fun _ p1 np1=>?_⟩
        have s7:=ao.new (o:=.tup (cP wd none (some (m:Int)))) np1
        refine⟨_,rfl,_,rfl,_,_,rfl,rfl,((m+1:Nat):Int),rfl,da,_,rfl,av.of (s7 _ _ hda6),fun hw'=>absurd hw'.1 (by rw [HT.j1];omega),fun _ p2 np2=>?_⟩
        have s8:=ao.new (o:=.tup (cP wd (some ((m+1:Nat):Int)) none)) np2
        refine⟨p1,p2,_,_,rfl,rfl,s8 _ _ af,af,(by exact GY (show _<=12 by omega) (by decide)),fun t H9 ht s9=>?_⟩
        have s69:=(s7.trans s8).trans s9
        have X39:Fix b H3 H9:=X36.trans (Fix.of_same s69)
        refine⟨t,ea,_,d1++d2,e,_,rfl,ht,?_,s69 _ _ hea6,xn hly.1 (fun d hd=>.inl ((Hd.mp hd).elim (c2 d) (c4 d))),(by rw [GW];omega),hly.2,hwy,B6.same s69,F3.trans X39,X39 _ _ hso3 nsb,fun p zs e=>X39 _ _ (kp3 _ _ e) (B3.bI (kp3 _ _ e))⟩
        rw [G3]
        exact aX.EO (c3.same s69 (bH d2)) (c1.same s69 (bH d1))
      have B4:=B3.same s34
      have hso4:=s34 _ _ hso3
      have hda4:=s34 _ _ hda3
      have hea4:=s34 _ _ hea3
      have rd4:=rd3.same s34 (bH ds)
      have F4:Fix b H H4:=F3.trans (Fix.of_same s34)
      have kp4:∀p zs,H p=some (.tup zs)->H4 p=some (.tup zs):=fun p zs e=>s34 _ _ (kp3 _ _ e)
      refine⟨_,rfl,rfl,_,rfl,?_⟩
      refine ki ?_ (fun rest hc=>?_)
      rotate_left
      . refine⟨_,rfl,da,_,rfl,.inr (av.of hda4),_,_,rfl,rfl,_,rfl,?_⟩
        refine cB (fun hd=>?_) (fun hd=>rest)
        have hdl:ds.length<12:=by
          have hd:decide (((wd.length:Nat):Int)<12)=true:=hd
          have:=of_decide_eq_true hd
          have hl:=rd4.len
          rw [GO] at hl
          omega
        refine⟨_,rfl,ln2,fun t1 n1=>⟨nS,fun t2 n2=>?_⟩⟩
        have q1:=ao.new (o:=.tup [.str "tell",.str "zz"]) n1
        have q2:=ao.new (o:=.tup [.ref t1]) n2
        have hwl':wd.length=ds.length:=by have:=rd4.len;rw [GO] at this;exact this
        refine⟨da,t2,_,_,rfl,rfl,q2 _ _ (q1 _ _ hda4),af,(by show _<=sizeLine;rw [hwl'];exact GY (show _<=13 by show _+1<=13;omega) (by decide)),fun t H6 ht s6=>?_⟩
        have s46:=(q1.trans q2).trans s6
        have r1:aY H6 (.ref t1) (bG (.tell "zz")):=.tup (s6 _ _ (q2 _ _ af)) (.cons (.str _) (.cons (.str _) .nil))
        refine⟨t,ea,_,ds++[.tell "zz"],e,_,rfl,ht,?_,s46 _ _ hea4,xn hly.1 (fun d hd=>?_),(by rw [GW];show _+1<=12;omega),hly.2,hwy,B4.same s46,F4.trans (Fix.of_same s46),s46 _ _ hso4,fun p zs e=>s46 _ _ (kp4 _ _ e)⟩
        . rw [G3]
          exact aX.app (rd4.same s46 (bH ds)) r1
        . rcases Hd.mp hd with hd | hd
          . exact .inl hd
          . exact .inr (GR.mp hd)
      refine⟨_,rfl,_,rfl,_,rfl,so,_,rfl,.inl (aU.of hso4),b,ea,e,qs.length,(by rw [hwl];rfl),B4,hea4,hly.2,hwy,h0,hn,fun t e' H6 ht hl' hw' B6 X6=>?_⟩
      exact⟨da,t,wd,ds,e',_,rfl,X6 _ _ hda4 (B4.bI hda4),rd4.aK (fun p zs e=>X6 _ _ e (B4.bI e)) (bH ds),ht,hly.1,hdlen _ (G9 hqk),hl',hw',B6,F4.trans X6,X6 _ _ hso4 nsb,fun p zs e=>X6 _ _ (kp4 _ _ e) (B4.bI (kp4 _ _ e))⟩
    rintro σ' H5 ⟨da',ea',wd',ds',e',u7,rfl,a1,a2,a3,a4,a45,a5,a6,B5,F5,hso5,kp5⟩
    refine⟨_,rfl,_,rfl,ln2,fun t nt=>?_⟩
    have s6:=ao.new (o:=.tup [.ref da',.ref ea']) nt
    refine⟨_,rfl,_,rfl,so,_,_,k,rfl,rfl,s6 _ _ hso5,iV (by rw [hwl];exact hk),?_⟩
    have hso6:=s6 _ _ hso5
    have kt:∀p zs,H5 p=some (.tup zs)->(upd (upd H5 t (.tup [.ref da',.ref ea'])) so (.lst (ws.set k (.ref t)))) p=some (.tup zs):=fun p zs e=>by rw [au (bN (s6 _ _ e) hso6 (by intro z;cases z))];exact s6 _ _ e
    have rt:aY (upd (upd H5 t (.tup [.ref da',.ref ea'])) so (.lst (ws.set k (.ref t)))) (.ref t) (dY (ds',e')):=.tup (by rw [au (bN (af (H:=H5) (a:=t) (o:=.tup [.ref da',.ref ea'])) hso6 (by intro z;cases z))];exact af) (.cons (.tup (kt _ _ a1) (a2.aK kt (bH ds'))) (.cons (zE (kt _ _ a3)) .nil))
    refine⟨_,rfl,so,_,rfl,.inl ⟨aU.of af,fun t' nt'=>?_⟩⟩
    have s7:=ao.new (o:=.tup (ws.set k (.ref t))) nt'
    have rall:=aX.setAt rt k (rws.aK (fun p zs e=>kt _ _ (kp5 _ _ e)) (cD qs))
    refine q (.ref t') (qs.set k (ds',e')) _ ?_ (Ia ..) (BE hin a6) (Ds hlay ⟨a4,a5⟩) (fun p hp=>(IQ hp).elim (hdlen p) fun z=>by rw [z];exact a45) (((B5.same s6).put nsb.symm).new nt') ?_
    . refine .tup af ?_
      rw [<-List.map_set] at rall
      exact rall.same s7 (cD _)
    . intro c oo e ne
      refine s7 _ _ ?_
      rw [au (aG e nso)]
      exact s6 _ _ (F5 c oo e ne)
theorem lP {f:Addr} {fd:FuncData} (F:b0 K "_law_paper_spoilt" "_law_paper_spoilt" fR f fd) (Z:Bl mg) (O_law_take:Own P w K mg base "_law_take" 1 ["bag", "many"] eN) (O_law_facts_spoilt:Own P w K mg base "_law_facts_spoilt" 4 ["bag", "facts"] tj):bp P w K mg base bT 5 f fd ["bag", "paper", "count"] tE:=by
  refine F.ok (k:=4) cV (fun vs H Q E h=>?_) (fun cdv A outer s H vs Q E hr h=>?_)
  . obtain⟨b,pa,us,tab,xs,n,rfl,_⟩:=h
    rfl
  . obtain⟨b,pa,us,tab,xs,n,rfl,hB,hta,hb,tok,hzz,h50,h0,h400,q⟩:=h
    refine⟨_,(ai (aL (i:=3) cV.nd rfl (GN rfl) (br jb rfl Z.list qJ (aa (pv 1) ae)))
      (ai (aL (i:=4) cV.nd rfl (GN rfl) (ba iy (aw O_law_take (hr.mono (by decide)) rfl (aa (pv 0) (aa (aQ aO rfl Z.len bJ (aa (pv 3) ae)) ae))) (br jv rfl Z.int pA (aa (ef nc (aw O_law_take (hr.mono (by decide)) rfl (aa (pv 0) (aa ah ae))) ah (aJ _)) ae))))
      (ai (cN (aI bY (pv 3) (pv 4) (fun _ _=>rfl)) (cG rfl (aM (aB (i:=5) cV.nd rfl (GN rfl)) (aM (aB (i:=6) cV.nd rfl (GN rfl)) cb))))
      (ai (aL (i:=7) cV.nd rfl (GN rfl) (aw O_law_take (hr.mono (by decide)) rfl (aa (pv 0) (aa ah ae))))
      (ai (cS (aZ (aF bw (pv 7) ah (aJ _))
      (ar (kh (aV (aa (ba cH (pv 5) ah) (aa (pv 6) ae))) (gG (pv 3) (pv 4) set_list)))
      (ar (aZ (aF bw (pv 7) ah (aJ _))
      (ar (kh (aV (aa (aI bY (cX (aa (xt ui ah) (aa (pv 2) (aa (ba lV ah ah) ae)))) (aw O_law_take (hr.mono (by decide)) rfl (aa (pv 0) (aa ah ae))) (fun _ _=>rfl)) (aa (pv 6) ae))) (gG (pv 3) (pv 4) set_list)))
      (ar (aZ (aF bw (pv 7) ah (aJ _))
      (ar (kh (aI bY (pv 3) (aw O_law_take (hr.mono (by decide)) rfl (aa (pv 0) (aa (aQ aO rfl Z.len bJ (aa (pv 3) ae)) ae))) (fun _ _=>rfl)) (gG (pv 3) (pv 4) set_list)))
      (ar (aZ (PW.pt (eZ (aF bw (pv 7) ah (aJ _)) (d9 (aF nc (aQ aO rfl Z.len bJ (aa (pv 3) ae)) ah (aJ _)))))
      (ar (dH (fU PySem.F.plainAttrs_list PySem.F.slot_list_pop PySem.F.type_list_pop Ax (pv 3) (aa (pv 4) ae))))
      (ar (aZ (PW.pt (eZ (aF bw (pv 7) ah (aJ _)) (d9 (aF gH (aQ aO rfl Z.len bJ (aa (pv 3) ae)) ah (aJ _)))))
      (ar (dH (fU PySem.F.plainAttrs_list PySem.F.slot_list_insert PySem.F.type_list_insert Bz (pv 3) (aa (pv 4) (aa (aI bY (pv 3) (pv 4) (fun _ _=>rfl)) ae)))))
      (ar (kh (aV (aa (pv 5) (aa (aw O_law_facts_spoilt (hr.mono (by decide)) rfl (aa (pv 0) (aa (pv 6) ae))) ae))) (gG (pv 3) (pv 4) set_list)))))))))))))
      (ar (aH (br bF rfl Z.tuple cI (aa (pv 3) ae))))))))),?_⟩
    have hul:=fw hb
    refine⟨_,rfl,pa,_,rfl,.inr (av.of hta),fun so nso=>?_⟩
    have s1:=ao.new (o:=.lst us) nso
    have hso:(upd H so (.lst us)) so=some (.lst us):=af
    change (_:Hp->Prop) (upd H so (.lst us))
    generalize (upd H so (.lst us))=H1 at s1 hso ⊢
    have B1:=hB.same s1
    have hb1:=cF.same hb s1
    have nsb:so≠b:=hB.du nso
    refine⟨_,rfl,_,rfl,so,_,rfl,.inl (aU.of hso),b,_,rfl,B1,⟨by omega,dh (by omega) (by omega)⟩,fun r H2 r0 r1 B2 X2=>?_⟩
    refine⟨_,rfl,b,3,rfl,B2,⟨by decide,by decide +kernel⟩,fun r2 H3 r20 r21 B3 X3=>?_⟩
    refine⟨_,_,rfl,rfl,?_⟩
    refine .inr ⟨_,rfl,?_⟩
    obtain⟨k,hkr,hkt⟩:∃k:Nat,r*(if decide (0<r2)=true then 1 else 0)=(k:Int)/\k<tab.length:=by
      cases decide (0<r2)
      . exact⟨0,by simp,h0⟩
      . exact⟨r.toNat,by simp;omega,by omega⟩
    refine⟨_,_,rfl,rfl,(by cases decide (0<r2) <;> exact .inr ⟨by decide,by decide⟩),?_⟩
    have e0:((fun i j:Int=>V.int (i*j)) r (if decide (0<r2)=true then 1 else 0))=V.int (k:Int):=congrArg V.int hkr
    rw [e0]
    have X13:Fix b H1 H3:=X2.trans X3
    have hso3:=X13 _ _ hso nsb
    have hb3:cF H3 us tab:=hb1.vn B1 X13
    have hokk:tab[k]?=some tab[k]:=by simp [hkt]
    generalize tab[k]=o at hokk
    obtain⟨v,hv,bo⟩:=gi hb3 hokk
    have oko:cA xs o.2:=tok o (G9 hokk)
    obtain⟨qa,fv,rfl,hqa,hfv⟩:=id bo
    refine⟨_,rfl,_,rfl,so,_,_,_,rfl,rfl,aU.of hso3,bA hv,qa,_,rfl,av.of hqa,rfl,_,_,rfl,_,_,rfl,rfl,?_⟩
    refine⟨_,rfl,b,8,rfl,B3,⟨by decide,by decide +kernel⟩,fun way H4 w0 w1 B4 X4=>?_⟩
    have F4:Fix b H H4:=((Fix.of_same s1).trans X13).trans X4
    have hso4:=X4 _ _ hso3 nsb
    have hb4:cF H4 us tab:=hb3.vn B3 X4
    have hfv4:FV H4 fv o.2:=hfv.aK fun p zs e=>X4 p _ e (B3.bI e)
    have bo4:oi H4 (.ref qa) o:=bo.aK fun p zs e=>X4 p _ e (B3.bI e)
    clear bo hb3 hso3 X4 X13 X3 X2 B3 B2 hqa hfv hb1 B1 hso
    have fin:∀(H5:Hp) (v:V) (o':Pp),H5 so=some (.lst us)->cF H5 us tab->bU H5 b->Fix b H H5->oi H5 v o'->cA xs o'.2->∃(us':List V) (tab':List Pp),([some (.ref b),some (.ref pa),some (.int n),some (.ref so),some (.int (k:Nat)),some (.int o.1),some fv,some (.int way)]:List (Option V))=[some (.ref b),some (.ref pa),some (.int n),some (.ref so),some (.int (k:Nat)),some (.int o.1),some fv,some (.int way)]/\(upd H5 so (.lst (us.set k v))) so=some (.lst us')/\cF (upd H5 so (.lst (us.set k v))) us' tab'/\(∀c∈tab',cA xs c.2)/\0<tab'.length/\tab'.length<=400/\bU (upd H5 so (.lst (us.set k v))) b/\Fix b H (upd H5 so (.lst (us.set k v))):=fun H5 v o' a1 a2 a3 a4 a5 a6=>by
      have kt:∀p zs,H5 p=some (.tup zs)->(upd H5 so (.lst (us.set k v))) p=some (.tup zs):=fun p zs e=>by rw [au (bN e a1 (by intro z;cases z))];exact e
      refine⟨us.set k v,tab.set k o',rfl,af,qh (F:=oi _) (a5.aK kt) k (cF.aK kt a2),(fun c hc=>?_),(by rw [Ia];exact h0),(by rw [Ia];exact h400),a3.put nsb.symm,fun c oo e ne=>?_⟩
      . rcases IQ hc with hc | rfl
        . exact tok c hc
        . exact a6
      . rw [au (aG e nso)]
        exact a4 c oo e ne
    refine⟨fun σ' H'=>∃(us':List V) (tab':List Pp),σ' = [some (.ref b),some (.ref pa),some (.int n),some (.ref so),some (.int (k:Nat)),some (.int o.1),some fv,some (.int way)]/\H' so=some (.lst us')/\cF H' us' tab'/\(∀c∈tab',cA xs c.2)/\0<tab'.length/\tab'.length<=400/\bU H' b/\Fix b H H',?_,?_⟩
    . refine⟨_,rfl,rfl,_,rfl,?_⟩
      refine cB (fun hc=>?_) (fun hc=>?_)
      . refine⟨_,rfl,_,_,rfl,rfl,_,rfl,ln2,fun t nt=>?_⟩
        have s5:=ao.new (o:=.tup [.int (o.1+1),fv]) nt
        refine⟨_,rfl,_,rfl,so,_,_,k,rfl,rfl,s5 _ _ hso4,iV (by rw [hul];exact hkt),?_⟩
        exact fin _ (.ref t) (o.1+1,o.2) (s5 _ _ hso4) (cF.same hb4 s5) (B4.same s5) (F4.trans (Fix.of_same s5)) ⟨t,fv,rfl,af,hfv4.same s5⟩ oko
      refine⟨_,rfl,rfl,_,rfl,?_⟩
      refine cB (fun hc=>?_) (fun hc=>?_)
      . refine⟨_,rfl,_,rfl,10,39,rfl,rfl,⟨by decide,by decide,by decide⟩,si,fun l nl=>?_⟩
        refine⟨_,rfl,b,3,rfl,B4.new nl,⟨by decide,by decide +kernel⟩,fun z H5 z0 z1 B5 X5=>?_⟩
        have hl5:=X5 l _ af (B4.du nl)
        have F45:Fix b H4 H5:=(Fix.new nl).trans X5
        obtain⟨m,hm⟩:∃m:Int,eV [V.int (-1),V.int n,V.int ((10:Int) ^ (39:Int).toNat)] z=some (V.int m):=by
          obtain rfl | rfl | rfl:z=0\/z=1\/z=2:=by omega
          . exact⟨_,bW⟩
          . exact⟨_,cR⟩
          . exact⟨_,at2⟩
        refine⟨l,_,_,_,rfl,rfl,aU.of hl5,hm,_,rfl,ln2,fun t nt=>?_⟩
        have s6:=ao.new (o:=.tup [.int m,fv]) nt
        have hso6:=s6 _ _ (F45 _ _ hso4 nsb)
        have fv5:FV H5 fv o.2:=hfv4.aK fun p zs e=>F45 p _ e (B4.bI e)
        refine⟨_,rfl,_,rfl,so,_,_,k,rfl,rfl,hso6,iV (by rw [hul];exact hkt),?_⟩
        exact fin _ (.ref t) (m,o.2) hso6 (cF.same (hb4.vn B4 F45) s6) (B5.same s6) ((F4.trans F45).trans (Fix.of_same s6)) ⟨t,fv,rfl,af,fv5.same s6⟩ oko
      refine⟨_,rfl,rfl,_,rfl,?_⟩
      refine cB (fun hc=>?_) (fun hc=>?_)
      . refine⟨_,rfl,_,rfl,_,rfl,so,_,rfl,.inl (aU.of hso4),b,_,rfl,B4,⟨by omega,dh (by omega) (by omega)⟩,fun r3 H5 r30 r31 B5 X5=>?_⟩
        obtain⟨k3,rfl⟩:∃k:Nat,r3=k:=⟨r3.toNat,by omega⟩
        have hk3:k3<tab.length:=by omega
        have hok3:tab[k3]?=some tab[k3]:=by simp [hk3]
        generalize tab[k3]=o3 at hok3
        obtain⟨v3,hv3,bo3⟩:=gi hb4 hok3
        have hso5:=X5 _ _ hso4 nsb
        refine⟨so,_,_,_,rfl,rfl,aU.of hso5,bA hv3,?_⟩
        refine⟨_,rfl,_,rfl,so,_,_,k,rfl,rfl,hso5,iV (by rw [hul];exact hkt),?_⟩
        exact fin H5 v3 o3 hso5 (hb4.vn B4 X5) B5 (F4.trans X5) (bo3.aK fun p zs e=>X5 _ _ e (B4.bI e)) (tok o3 (G9 hok3))
      refine⟨_,rfl,rfl,_,rfl,?_⟩
      have upto:∀(us':List V) (tab':List Pp),Paired (oi H4) us' tab'->(∀c∈tab',cA xs c.2)->0<tab'.length->tab'.length<=400->∃(us'':List V) (tab':List Pp),([some (.ref b),some (.ref pa),some (.int n),some (.ref so),some (.int (k:Nat)),some (.int o.1),some fv,some (.int way)]:List (Option V))=[some (.ref b),some (.ref pa),some (.int n),some (.ref so),some (.int (k:Nat)),some (.int o.1),some fv,some (.int way)]/\(upd H4 so (.lst us')) so=some (.lst us'')/\cF (upd H4 so (.lst us')) us'' tab'/\(∀c∈tab',cA xs c.2)/\0<tab'.length/\tab'.length<=400/\bU (upd H4 so (.lst us')) b/\Fix b H (upd H4 so (.lst us')):=fun us' tab' a1 a2 a3 a4=>by
        have kt:∀p zs,H4 p=some (.tup zs)->(upd H4 so (.lst us')) p=some (.tup zs):=fun p zs e=>by rw [au (bN e hso4 (by intro z;cases z))];exact e
        refine⟨us',tab',rfl,af,cF.aK kt a1,a2,a3,a4,B4.put nsb.symm,fun c oo e ne=>?_⟩
        rw [au (aG e nso)]
        exact F4 c oo e ne
      refine ki ?_ (fun rest hc=>?_)
      rotate_left
      . refine⟨_,rfl,so,_,rfl,.inl (aU.of hso4),_,_,rfl,rfl,_,rfl,?_⟩
        refine cB (fun hd=>?_) (fun hd=>?_)
        . have h2:1<tab.length:=by
            have hd:decide (((us.length:Nat):Int) > 1)=true:=hd
            have:=of_decide_eq_true hd
            omega
          refine⟨_,rfl,.inl ⟨rfl,_,aU.of hso4⟩,_,rfl,so,_,_,k,_,rfl,rfl,hso4,(by omega),(by omega),(qH (iV (by rw [hul];exact hkt))).1,hv,?_⟩
          have hlen:(tab.eraseIdx k).length=tab.length-1:=by rw [List.length_eraseIdx];rw [if_pos hkt]
          exact upto _ (tab.eraseIdx k) (lJ k hb4) (fun T hT=>tok T (List.mem_of_mem_eraseIdx hT)) (by omega) (by omega)
        . exact rest
      refine⟨_,rfl,rfl,_,rfl,?_⟩
      refine ki ?_ (fun rest hc=>?_)
      rotate_left
      . refine⟨_,rfl,so,_,rfl,.inl (aU.of hso4),_,_,rfl,rfl,_,rfl,?_⟩
        refine cB (fun hd=>?_) (fun hd=>?_)
        . have h2:tab.length<400:=by
            have hd:decide (((us.length:Nat):Int)<400)=true:=hd
            have:=of_decide_eq_true hd
            omega
          refine⟨_,rfl,.inl ⟨rfl,_,aU.of hso4⟩,_,rfl,_,rfl,_,rfl,so,_,_,_,rfl,rfl,aU.of hso4,bA hv,so,_,_,k,_,rfl,rfl,rfl,hso4,(by omega),(by omega),?_⟩
          have hlen:(tab.take k++o::tab.drop k).length=tab.length+1:=by simp;omega
          refine upto _ (tab.take k++o::tab.drop k) (L2.eS (og k hb4) (.cons bo4 (oh k hb4))) (fun T hT=>?_) (by omega) (by omega)
          rcases Hd.mp hT with h | h
          . exact tok T (Jm h)
          . rcases GS.mp h with h | h
            . rw [h];exact oko
            . exact tok T (List.mem_of_mem_drop h)
        . exact rest
      refine⟨_,rfl,_,rfl,_,rfl,b,fv,o.2,xs,rfl,B4,hfv4,oko,hzz,h50,fun v' T' H5 f5 tok5 B5 X5=>⟨ln2,fun t nt=>?_⟩⟩
      have s6:=ao.new (o:=.tup [.int o.1,v']) nt
      have hso6:=s6 _ _ (X5 _ _ hso4 nsb)
      refine⟨_,rfl,_,rfl,so,_,_,k,rfl,rfl,hso6,iV (by rw [hul];exact hkt),?_⟩
      exact fin _ (.ref t) (o.1,T') hso6 (cF.same (hb4.vn B4 X5) s6) (B5.same s6) ((F4.trans X5).trans (Fix.of_same s6)) ⟨t,v',rfl,af,f5.same s6⟩ tok5
    rintro σ' H5 ⟨us',tab',rfl,a1,a2,a3,a4,a5,a6,a7⟩
    refine⟨_,rfl,so,_,rfl,.inl ⟨aU.of a1,fun t nt=>?_⟩⟩
    exact q t us' tab' _ af (cF.same a2 (ao.new nt)) a3 a4 a5 (a6.new nt) (a7.trans (Fix.new nt))
theorem vA {f:Addr} {fd:FuncData} (F:b0 K "_law_alike" "_law_alike" jW f fd) (Z:Bl mg) (O_law_input:Own P w K mg base "_law_input" 3 ["bag"] uE) (O_law_take:Own P w K mg base "_law_take" 1 ["bag", "many"] eN) (O_law_walk:Own P w K mg base "_law_walk" 2 ["plan", "numbers", "steps"] wM):bp P w K mg base bT 4 f fd ["bag", "plan", "other", "paper"] vo:=by
  refine F.ok (k:=3) fg (fun vs H Q E h=>?_) (fun cdv A outer s H vs Q E hr h=>?_)
  . obtain⟨b,pa,plv,qlv,ps,qs,us,paper,rfl,_⟩:=h
    rfl
  . obtain⟨b,pa,plv,qlv,ps,qs,us,paper,rfl,hB,hp,hq,hpa,hpp,hin,hinq,h0,hP,q⟩:=h
    refine⟨_,(ai (eM PassesOwn.never rfl (eJ rfl Z.range (aa ah ae)) (aB (i:=4) fg.nd rfl (GN rfl))
      (ai (aL (i:=5) fg.nd rfl (GN rfl) (aw O_law_input (hr.mono (by decide)) rfl (aa (pv 0) ae)))
      (ai (aL (i:=6) fg.nd rfl (GN rfl) (aI bY (cX (aa (aw O_law_take (hr.mono (by decide)) rfl (aa (pv 0) (aa ah ae))) (aa (aw O_law_take (hr.mono (by decide)) rfl (aa (pv 0) (aa ah ae))) (aa ah ae)))) (aw O_law_take (hr.mono (by decide)) rfl (aa (pv 0) (aa ah ae))) (fun _ _=>rfl)))
      (ai (aL (i:=7) fg.nd rfl (GN rfl) (aw O_law_walk (hr.mono (by decide)) rfl (aa (pv 1) (aa (pv 5) (aa (pv 6) ae)))))
      (ai (aL (i:=8) fg.nd rfl (GN rfl) (aw O_law_walk (hr.mono (by decide)) rfl (aa (pv 2) (aa (pv 5) (aa (pv 6) ae)))))
      (ar (aZ (PW.pt (m7 (aF (pE hr.units) (aV (aa (aI aN (pv 7) ah (fun _ _=>rfl)) (aa (aI aN (pv 7) ah (fun _ _=>rfl)) ae))) (aV (aa (aI aN (pv 8) ah (fun _ _=>rfl)) (aa (aI aN (pv 8) ah (fun _ _=>rfl)) ae))) (aJ _)) (j0 (aF (pE hr.units) (aI aN (pv 7) ah (fun _ _=>rfl)) (de ["place"] ["paper"] [3] rfl (m8 (aI aN (pv 8) ah (fun _ _=>rfl))) rfl (by decide +kernel) (by decide +kernel) (by decide +kernel) ⟨⟨rfl,.inl rfl,rfl⟩,True.intro⟩ (fun _ _ _ _=>(aB (i:=0) (show ((["place"]:List Str)++(["paper"]:List Str)).Nodup by decide +kernel) rfl (GN rfl) (hf:=G6 rfl))) (fun _ _ _ _=>dI) (fun _ _ _ _=>(aI (xg (K:=K) rfl) (aI (xg (K:=K) rfl) (pv 1) (pv 0) (fun _ _=>rfl)) ah (fun _ _=>rfl)))) (aJ _)))))
      (ar (aH fS))
      aP)))))))
      (ar (aH fS))),?_⟩
    have h0q:0<qs.length:=by
      obtain⟨c,c1,_⟩:=hP.first
      have:=(G7.mp c1).1
      rw [hP.len] at this
      omega
    refine⟨3,rfl,(by decide),(by decide),ix (lo:=0) (fun i GK H'=>∃(u1 u2 u3 u4 u5:Option V),GK=[some (.ref b),some plv,some qlv,some (.ref pa),u1,u2,u3,u4,u5]/\bU H' b/\Fix b H H') ?_ ?_ ?_⟩
    . exact⟨_,_,_,_,_,rfl,hB,Fix.refl b H⟩
    . rintro i GK H1 hi ⟨u1,u2,u3,u4,u5,rfl,B1,X1⟩
      rw [Int.zero_add]
      refine cY ?_
      refine⟨_,rfl,b,rfl,B1,fun np nums H14 hnp B14 X14=>?_⟩
      refine⟨_,rfl,b,60,rfl,B14,⟨by decide,by decide +kernel⟩,fun d1 H15 d10 d11 B15 X15=>?_⟩
      refine⟨_,rfl,b,2001,rfl,B15,⟨by decide,by decide +kernel⟩,fun d2 H16 d20 d21 B16 X16=>⟨si,fun l2 n2=>?_⟩⟩
      refine⟨_,rfl,b,3,rfl,B16.new n2,⟨by decide,by decide +kernel⟩,fun d3 H17 d30 d31 B17 X17=>?_⟩
      have h2:H17 l2=some (.lst [.int d1,.int d2,.int 2000]):=X17 l2 _ af (B16.du n2)
      obtain⟨m,hm,hm0,hm1⟩:∃m:Int,eV [V.int d1,V.int d2,V.int 2000] d3=some (V.int m)/\0<=m/\m<=2000:=by
        obtain rfl | rfl | rfl:d3=0\/d3=1\/d3=2:=by omega
        . exact⟨d1,bW,d10,by omega⟩
        . exact⟨d2,cR,d20,by omega⟩
        . exact⟨2000,at2,by decide,by decide⟩
      refine⟨l2,_,_,_,rfl,rfl,aU.of h2,hm,?_⟩
      have F17:Fix b H14 H17:=((X15.trans X16).trans (Fix.new n2)).trans X17
      have hnp17:=F17 _ _ hnp (B14.bI hnp)
      have X17':Fix b H H17:=X1.trans (X14.trans F17)
      obtain⟨k,rfl⟩:∃k:Nat,m=k:=⟨m.toNat,by omega⟩
      have hk:k<=2000:=by omega
      have kp:∀p zs,H p=some (.tup zs)->H17 p=some (.tup zs):=fun p zs e=>X17' p _ e (hB.bI e)
      have rp17:=hp.aK kp (bR ps)
      have rq17:=hq.aK kp (bR qs)
      have hpa17:=kp _ _ hpa
      have hpp17:=hpp.aK kp
      clear h2 hm F17 X17 X16 X15 X14 B16 B15 B14 n2 hnp
      refine⟨_,rfl,_,rfl,_,rfl,np,plv,k,nums,ps,rfl,rp17,hin,h0,hnp17,hk,fun st d tl bl H18 A18 s18=>?_⟩
      refine⟨_,rfl,_,rfl,_,rfl,np,qlv,k,nums,qs,rfl,rq17.same s18 (bR qs),hinq,h0q,s18 _ _ hnp17,hk,fun st2 dd2 tl2 bl2 H19 A19 s19=>?_⟩
      have sm:=hP.sim nums k
      have layw:PySem.PyData.canLay0 (.str (b8 ps nums k (cU 0 fun _=>0)).word)=true:=AO rfl k
      have hbl:∀j∈(b8 qs nums k (cU 0 fun _=>0)).bM,j<qs.length:=xf hinq h0q k
      generalize b8 ps nums k (cU 0 fun _=>0)=W at A18 layw sm
      generalize b8 qs nums k (cU 0 fun _=>0)=W' at A19 sm hbl
      have a1:=s19 _ _ A18.at_
      have a2:=s19 _ _ A18.told
      have a3:=s19 _ _ A18.bM
      refine⟨_,rfl,st,_,5,_,rfl,rfl,av.of a1,bA (j:=5) rfl,_,rfl,st,_,4,_,rfl,rfl,av.of a1,bA (j:=4) rfl,ln2,fun t2 n2=>?_⟩
      have q2:=ao.new (o:=.tup [.str W.word,.ref tl]) n2
      have b1:=q2 _ _ A19.at_
      have b2':=q2 _ _ A19.told
      refine⟨_,rfl,st2,_,5,_,rfl,rfl,av.of b1,bA (j:=5) rfl,_,rfl,st2,_,4,_,rfl,rfl,av.of b1,bA (j:=4) rfl,ln2,fun t4 n4=>?_⟩
      have q4:=ao.new (o:=.tup [.str W'.word,.ref tl2]) n4
      have eR:kQ W' = kQ W:=by unfold kQ;rw [sm.told,sm.word]
      have r1:aY _ (.ref t2) (kQ W):=.tup (q4 _ _ af) (.cons (.str _) (.cons (.lst (q4 _ _ (q2 _ _ a2)) (qT _)) .nil))
      have r2:aY _ (.ref t4) (kQ W'):=.tup (af (H:=upd H19 t2 (.tup [.str W.word,.ref tl])) (a:=t4) (o:=.tup [.str W'.word,.ref tl2])) (.cons (.str _) (.cons (.lst (q4 _ _ b2') (qT _)) .nil))
      rw [eR] at r2
      have layR:=BG layw
      have depR:=BH W
      have s24:=q2.trans q4
      change (_:Hp->Prop) (upd (upd H19 t2 (.tup [.str W.word,.ref tl])) t4 (.tup [.str W'.word,.ref tl2]))
      generalize (upd (upd H19 t2 (.tup [.str W.word,.ref tl])) t4 (.tup [.str W'.word,.ref tl2]))=H20 at q4 r1 r2 s24 ⊢
      refine⟨_,_,r1,r2,layR,layR,(by omega),_,rfl,?_⟩
      refine bc (by rw [PySem.SeqAt.eqv_refl _ layR];rfl) ?_
      have c1:=s24 _ _ a1
      have c3:=s24 _ _ a3
      have c2:=s24 _ _ A19.at_
      have c4:=s24 _ _ A19.bM
      have s1720:=(s18.trans s19).trans s24
      have hpa20:=s1720 _ _ hpa17
      have hpp20:=cF.same hpp17 s1720
      refine⟨_,rfl,st,_,6,_,rfl,rfl,av.of c1,bA (j:=6) rfl,_,rfl,st2,_,6,_,rfl,rfl,av.of c2,bA (j:=6) rfl,bl2,rfl,⟨_,aU.of c4⟩,fun ac na=>?_⟩
      have hbe:W.bM.length=W'.bM.length:=by have:=congrArg HI sm.bM;simpa using this.symm
      refine ng (K:=K) (a:=bl2) (xs:=W'.bM.map fun k=>V.int (k:Nat)) (fun i ys GL H'=>∃t0:Option V,GL=[t0,some (.ref pa)]/\H' ac=some (.lst ys)/\ys=(W.bM.take i).map (fun k=>V.int (k:Nat))/\ao H20 H') ?_ ?_ ?_ ?_
      . exact⟨none,rfl,af,rfl,ao.new na⟩
      . rintro i ys GL H' hi ⟨t0,rfl,ha,rfl,sa⟩
        refine⟨aU.of (sa _ _ c4),ha,?_⟩
        rw [GO,Hm]
        have:=A18.bB.2
        exact Iq (show _<=2001 by omega) (by decide)
      . rintro i y ys GL H' hi ⟨t0,rfl,ha,rfl,sa⟩
        obtain⟨j,hj,rfl⟩:∃j,W'.bM[i]?=some j/\y=V.int (j:Nat):=by
          rw [G8] at hi
          cases e:W'.bM[i]? with
          | none=>rw [e] at hi;cases hi
          | some k=>rw [e] at hi;exact⟨k,rfl,(G5.inj hi).symm⟩
        have hjl:=hbl j (G9 hj)
        have hjp:j<paper.length:=by rw [hP.len];exact hjl
        have hci:paper[j]?=some paper[j]:=by simp [hjp]
        generalize paper[j]=c at hci
        have hWi:W.bM[i]?=some c.1.toNat:=by
          have h1:=congrArg (fun l:List (Option Nat)=>l[i]?) sm.bM
          simp only [G8,hj,IK] at h1
          rw [hci] at h1
          cases e:W.bM[i]? with
          | none=>rw [e] at h1;cases h1
          | some k =>
            rw [e] at h1
            have h1:=G5.inj (G5.inj h1)
            exact congrArg some h1.symm
        obtain⟨pv,hpv,qa,fv,rfl,hqa,_⟩:=gi hpp20 hci
        have hc0:=(hP.Cu c (G9 hci)).1
        refine cY ?_
        refine gK ?_
        refine bL ?_
        refine⟨_,rfl,_,rfl,pa,_,_,_,rfl,rfl,av.of (sa _ _ hpa20),bA hpv,qa,_,0,_,rfl,rfl,av.of (sa _ _ hqa),bW,ha,_,rfl,af,?_,sa.put na⟩
        rw [Hi,hWi,G3,show V.int c.1=V.int (c.1.toNat:Nat) by congr 1;omega]
        rfl
      rintro ys GL H23 ⟨t0,rfl,ha,rfl,s23⟩
      rw [GO,<-hbe,Hr] at ha
      have layB:(PyData.list (W.bM.map fun k=>PyData.int (k:Nat))).canLay0=true:=oX _ fun d hd=>by obtain⟨x,_,rfl⟩:=G4.mp hd;rfl
      have depB:(PyData.list (W.bM.map fun k=>PyData.int (k:Nat))).depth<=60:=by
        show PyData.depthAll _+1<=60
        have:=ke (m:=0) (W.bM.map fun k=>PyData.int (k:Nat)) fun d hd=>by obtain⟨x,_,rfl⟩:=G4.mp hd;exact GQ 0
        omega
      refine⟨_,_,.lst (s23 _ _ c3) (rE _),.lst ha (rE _),layB,layB,(by omega),_,rfl,?_⟩
      refine bc (by rw [PySem.SeqAt.eqv_refl _ layB];rfl) ?_
      have sE:=s1720.trans s23
      exact⟨_,_,_,_,_,rfl,B17.same sE,X17'.trans (Fix.of_same sE)⟩
    . rintro GK H1 ⟨u1,u2,u3,u4,u5,rfl,B1,X1⟩
      exact q H1 B1 X1
theorem ER {f:Addr} {fd:FuncData} (F:b0 K "law" "law" nG f fd) (Z:Bl mg) {C:Addr} (T:uT K C) (O_law_bag:Own P w K mg base "_law_bag" 1 ["script", "k"] (Cc K)) (O_law_take:Own P w K mg base "_law_take" 1 ["bag", "many"] eN) (O_law_count:Own P w K mg base "_law_count" 2 ["bag", "most"] wI) (O_law_plan:Own P w K mg base "_law_plan" 4 ["bag", "count", "most"] y3) (O_led_past:Own P w K mg base "led_past" 7 ["plan", "most"] (sY P w C)) (O_law_paper_spoilt:Own P w K mg base "_law_paper_spoilt" 5 ["bag", "paper", "count"] tE) (O_law_other_spoilt:Own P w K mg base "_law_other_spoilt" 4 ["bag", "other"] tD) (O_paper_holds:Own P w K mg base "paper_holds" 9 ["plan", "other", "paper"] mR) (O_law_alike:Own P w K mg base "_law_alike" 4 ["bag", "plan", "other", "paper"] vo):bp P w K mg base bT 11 f fd ["script"] (tT K):=by
  refine F.ok (k:=10) fh (fun vs H Q E h=>?_) (fun cdv A outer s H vs Q E hr h=>?_)
  . obtain⟨a,ns,rfl,_⟩:=h
    rfl
  . obtain⟨a,ns,rfl,hS,hlen,q⟩:=h
    refine⟨_,(ai (aL (i:=1) fh.nd rfl (GN rfl) (aw O_law_bag (hr.mono (by decide)) rfl (aa (pv 0) (aa ah ae))))
      (ai (aL (i:=2) fh.nd rfl (GN rfl) (aw O_law_plan (hr.mono (by decide)) rfl (aa (aw O_law_bag (hr.mono (by decide)) rfl (aa (pv 0) (aa ah ae))) (aa (aw O_law_count (hr.mono (by decide)) rfl (aa (pv 1) (aa ah ae))) (aa ah ae)))))
      (ai (cN (aw O_led_past (hr.mono (by decide)) rfl (aa (pv 2) (aa (aI bY (cX (aa ah (aa (ba cH ah (aw O_law_take (hr.mono (by decide)) rfl (aa (pv 1) (aa ah ae)))) ae))) (aw O_law_take (hr.mono (by decide)) rfl (aa (pv 1) (aa ah ae))) (fun _ _=>rfl)) ae))) (cG rfl (aM (aB (i:=3) fh.nd rfl (GN rfl)) (aM (aB (i:=4) fh.nd rfl (GN rfl)) cb))))
      (ai (cS (aZ (aF bw (aw O_law_take (hr.mono (by decide)) rfl (aa (pv 1) (aa ah ae))) ah (aJ _))
      (ar (lS (i:=3) (j:=4) rfl fh.nd rfl rfl (by decide) rfl rfl (aa (pv 2) (aa (br bF rfl Z.tuple cI (aa (de ["k"] [] [] rfl (eJ rfl Z.range (aa (aQ aO rfl Z.len bJ (aa (pv 2) ae)) ae)) rfl (by decide +kernel) (by decide +kernel) (by decide +kernel) True.intro (fun _ _ _ _=>(aB (i:=0) (show ((["k"]:List Str)++([]:List Str)).Nodup by decide +kernel) rfl (GN rfl) (hf:=G6 rfl))) (fun _ _ _ _=>dI) (fun _ _ _ _=>(aV (aa (pv 0) (aa (aV ae) ae))))) ae)) ae)) rfl))
      aP))
      (ai (eM PassesOwn.never rfl (eJ rfl Z.range (aa (ba cH ah (aQ (lW rfl) rfl Z.min uq (aa (aQ aO rfl Z.len bJ (aa (pv 0) ae)) (aa ah ae)))) ae)) (aB (i:=5) fh.nd rfl (GN rfl))
      (ai (aL (i:=1) fh.nd rfl (GN rfl) (aw O_law_bag (hr.mono (by decide)) rfl (aa (pv 0) (aa (pv 5) ae))))
      (ai (aL (i:=6) fh.nd rfl (GN rfl) (aw O_law_take (hr.mono (by decide)) rfl (aa (pv 1) (aa ah ae))))
      (ai (lS (i:=7) (j:=8) rfl fh.nd rfl rfl (by decide) rfl rfl (aa (pv 3) (aa (pv 4) ae)) rfl)
      (ai (cS (aZ (aF xu (pv 6) ah (aJ _))
      (ar (aL (i:=8) fh.nd rfl (GN rfl) (aw O_law_paper_spoilt (hr.mono (by decide)) rfl (aa (pv 1) (aa (pv 4) (aa (aQ aO rfl Z.len bJ (aa (pv 2) ae)) ae))))))
      aP))
      (ai (cS (aZ (PW.pt (m7 (aF bw (pv 6) ah (aJ _)) (j0 (aF bw (pv 6) ah (aJ _)))))
      (ar (aL (i:=7) fh.nd rfl (GN rfl) (aw O_law_other_spoilt (hr.mono (by decide)) rfl (aa (pv 1) (aa (pv 3) ae)))))
      aP))
      (ai (cS (aZ (aF Ef (aw O_paper_holds (hr.mono (by decide)) rfl (aa (pv 2) (aa (pv 7) (aa (pv 8) ae)))) fS (aJ _))
      (ar (lS (i:=3) (j:=4) rfl fh.nd rfl rfl (by decide) rfl rfl (aa (pv 7) (aa (pv 8) ae)) rfl))
      aP))
      (ar (aZ (PW.pt (m7 (aF yU (aw O_paper_holds (hr.mono (by decide)) rfl (aa (pv 2) (aa (pv 3) (aa (pv 4) ae)))) fS (aJ _)) (j0 (o8 (iZ (aw O_law_alike (hr.mono (by decide)) rfl (aa (pv 1) (aa (pv 2) (aa (pv 3) (aa (pv 4) ae))))))))))
      (ar (aH fS))
      aP)))))))))
      (ar (aH fS))))))),?_⟩
    refine⟨_,rfl,a,ns,0,rfl,hS,(by decide),fun b H1 nb B1 s1=>?_⟩
    refine⟨_,rfl,a,ns,1,rfl,s1.seq hS,(by decide),fun b2 H5 nb2 B5 s5=>?_⟩
    have B15:=B1.same s5
    have nbb:b2≠b:=B1.du nb2
    refine⟨_,rfl,b,12,rfl,B15,(by omega),(by omega),fun c H7 c0 c1 B7 X7=>?_⟩
    have B27:bU H7 b2:=by
      obtain⟨x,y,e,zz⟩:=B5
      exact⟨x,y,X7 _ _ e nbb,zz⟩
    refine⟨b2,c,3,rfl,B27,c0,(by omega),(by omega),fun plv xs0 ps H8 r8 hc8 pok0 xok B8 X8=>?_⟩
    have B18:bU H8 b:=by
      obtain⟨x,y,e,zz⟩:=B7
      exact⟨x,y,X8 _ _ e nbb.symm,zz⟩
    have s7:ao H H7:=ao.iA (s1.trans s5) nb X7
    have s8:ao H H8:=ao.iA s7 (s1.free nb2) X8
    have hin:cT ps:=pok0.uD
    have hn0:0<ps.length:=by omega
    have hn12:ps.length<=12:=by omega
    have pok6:=pok0.up (k:=6) (by decide)
    have pok12:=(pok0.up (k:=12) (by decide)).EM [("zz" : Str)]
    have hx10:xs0.length<=10:=by have:=xok.2;omega
    have hx50:(xs0++[("zz" : Str)]).length<=50:=by rw [GW];show _+1<=50;omega
    have hzz:("zz" : Str)∈xs0++[("zz" : Str)]:=Hn _ (GR.mpr rfl)
    have nok:∀x∈xs0++[("zz" : Str)],eO x:=fun x hx=>(Hd.mp hx).elim (xok.1 x) fun h=>by rw [GR.mp h];exact Du
    clear B8 X8 B27 X7 B7 B15 B5 s7
    refine⟨_,rfl,?_⟩
    refine⟨_,rfl,b,40,rfl,B18,⟨by decide,by decide +kernel⟩,fun z H9 z0 z1 B9 X9=>⟨_,_,rfl,rfl,ln2,fun l nl=>?_⟩⟩
    refine⟨_,rfl,b,2,rfl,B9.new nl,⟨by decide,by decide +kernel⟩,fun y H10 y0 y1 B10 X10=>?_⟩
    have hl10:=X10 l _ af (B9.du nl)
    have F810:Fix b H8 H10:=(X9.trans (Fix.new nl)).trans X10
    obtain⟨most,hat,hm1,hm3⟩:∃m:Nat,eV [V.int 300,V.int (1+z)] y=some (V.int m)/\1<=m/\m<=300:=by
      obtain⟨k1,rfl⟩:∃k:Nat,z=k:=⟨z.toNat,by omega⟩
      obtain rfl | rfl:y=0\/y=1:=by omega
      . exact⟨300,bW,by decide,by decide⟩
      . exact⟨1+k1,cR,by omega,by omega⟩
    have r10:aY H10 plv (dM ps):=r8.aK (fun p zs e=>F810 p _ e (B18.bI e)) (bR ps)
    have s10:ao H H10:=ao.iA s8 nb F810
    refine⟨l,_,_,_,rfl,rfl,aU.of hl10,hat,plv,ps,xs0,most,rfl,r10,pok6,xok.1,hx10,hn0,(by omega),hm1,hm3,fun lv ds H11 cc r11 s11=>?_⟩
    obtain⟨lp,lvs,rfl,hlp,rl⟩:=aY.bZ r11
    obtain⟨ov,t1,rfl,ro,rl⟩:=rl.cons_inv
    obtain⟨cv,t2,rfl,rc,rl⟩:=rl.cons_inv
    have z':=rl.nil_inv
    subst z'
    obtain⟨cp,cvs,rfl,hcp,rcvs⟩:=aY.bZ rc
    have pokL:=zQ pok6 hn0 hm1
    have hsz:=zR pok6 hn0 hm1
    obtain⟨I,hol,_⟩:=kM pok6 hn0 hm1
    have P11:iQ H11 ov cp ps (ft ps most).2 ((ft ps most).1.map kO) (xs0++[("zz" : Str)]):=⟨ro,⟨cvs,hcp,zZ rcvs cc⟩,zX pok6 hn0 hm1,(fun c hc=>by obtain⟨c',hc',rfl⟩:=G4.mp hc;exact ((I.ok c' hc').2).EM _),pokL.uD,oQ xok.1 pokL,(fun p hp=>GY (pokL.fk p hp).1 (by decide)),by have:=hsz.2;omega⟩
    have B11:=B10.same s11
    have s011:=s10.trans s11
    have rp11:=r10.same s11 (bR ps)
    generalize xs0++[("zz" : Str)]=xs at *
    refine⟨lp,_,rfl,av.of hlp,rfl,_,_,rfl,_,_,rfl,rfl,?_⟩
    clear hl10 hat F810 X10 X9 B9 nl rcvs rc hcp ro hlp r11 I hol hsz pokL cc r8 B18 B10 s8
    refine⟨fun σ' H'=>∃(ov':V) (pa:Addr) (qs:List Piece) (paper:List Pp),σ' = [some (.ref a),some (.ref b),some plv,some ov',some (.ref pa),none,none,none,none]/\iQ H' ov' pa ps qs paper xs/\aY H' plv (dM ps)/\ao H H',?_,?_⟩
    . refine⟨_,rfl,b,3,rfl,B11,⟨by decide,by decide +kernel⟩,fun r H12 r0 r1 B12 X12=>⟨rfl,_,rfl,?_⟩⟩
      have kp:∀p zs,H11 p=some (.tup zs)->H12 p=some (.tup zs):=fun p zs e=>X12 p _ e (B11.bI e)
      have s12:ao H H12:=ao.iA s011 nb X12
      have rp12:=rp11.aK kp (bR ps)
      refine cB (fun hc=>?_) (fun hc=>?_)
      . obtain⟨pp,vs,rfl,e1,rvs⟩:=aY.bZ (show aY H12 plv (.tuple (ps.map dY)) from rp12)
        have hvl:vs.length=ps.length:=by have:=rvs.len;rw [GO] at this;exact this
        refine⟨_,rfl,_,rfl,pp,_,rfl,.inr (av.of e1),_,rfl,(by omega),(by omega),fun acc na=>?_⟩
        refine ko (lo:=0) (fun i' ys GL H'=>∃(c1:Option V),GL=[c1]/\H' acc=some (.lst ys)/\cF H' ys ((gf ps.length).take i')/\ao H12 H') ?_ ?_ ?_ ?_
        . exact⟨none,rfl,af,.nil,ao.new na⟩
        . rintro i' ys GL H' hi' ⟨c1,rfl,ha,hv,sa⟩
          refine⟨ha,?_⟩
          have:=fw hv
          rw [Hm] at this
          exact bE (by omega)
        . rintro i' ys GL H' hi' ⟨c1,rfl,ha,hv,sa⟩
          have hip:i' < ps.length:=by omega
          rw [Int.zero_add]
          refine cY ?_
          refine gK ?_
          refine bL ?_
          refine⟨_,rfl,(by show 0<=sizeLine;decide),fun t0 n0=>⟨ln2,fun t1 n1=>?_⟩⟩
          have q0:=ao.new (o:=.tup []) n0
          have q1:=ao.new (o:=.tup [.int (i':Nat),.ref t0]) n1
          have q01:=q0.trans q1
          have ha2:=q01 _ _ ha
          refine⟨ha2,_,rfl,af,?_,(sa.trans q01).put na⟩
          have kt:∀p zs,(upd (upd H' t0 (.tup [])) t1 (.tup [.int (i':Nat),.ref t0])) p=some (.tup zs)->(upd (upd (upd H' t0 (.tup [])) t1 (.tup [.int (i':Nat),.ref t0])) acc (.lst (ys++[.ref t1]))) p=some (.tup zs):=fun p zs e=>by rw [au (bN e ha2 (by intro z;cases z))];exact e
          rw [Hi,plain_at hip]
          refine L2.eS (cF.aK kt (cF.same hv q01)) (.cons ⟨t1,.ref t0,rfl,kt _ _ af,FD.zero.fv (.tup (kt _ _ (q1 _ _ af)) .nil)⟩ .nil)
        rintro ys GL H14 ⟨c1,rfl,ha,hv,sa⟩
        refine⟨acc,_,rfl,.inl ⟨aU.of ha,fun t nt=>?_⟩⟩
        have s15:=sa.trans (ao.new (o:=.tup ys) nt)
        have hv':cF H14 ys (gf ps.length):=by
          rw [hvl,Iw (by unfold gf;rw [GO,IL];exact GQ _)] at hv
          exact hv
        have rp15:=rp12.same s15 (bR ps)
        refine⟨_,_,rfl,?_⟩
        exact⟨.ref pp,t,ps,gf ps.length,rfl,⟨rp15,⟨ys,af,cF.same hv' (ao.new nt)⟩,vQ hin hn0,z7,hin,oQ nok pok12,(fun p hp=>(pok12.fk p hp).1),by omega⟩,rp15,s12.trans s15⟩
      . exact⟨ov,cp,_,_,rfl,P11.aK kp,rp12,s12⟩
    rintro σ' H12 ⟨ov',pa,qs,paper,rfl,P12,rp12,s12⟩
    clear P11 B11 s011 rp11 s11 s10 r10
    refine⟨_,rfl,a,_,rfl,.inl (s12.seq hS),_,_,rfl,_,_,rfl,rfl,_,rfl,(by split <;> (try rw [GO]) <;> omega),(by split <;> (try rw [GO]) <;> omega),ix (lo:=0) (fun i GK H'=>∃(ov':V) (pa:Addr) (qs:List Piece) (paper:List Pp) (u0 u1 u2 u3 u4:Option V),GK=[some (.ref a),u0,some plv,some ov',some (.ref pa),u1,u2,u3,u4]/\iQ H' ov' pa ps qs paper xs/\aY H' plv (dM ps)/\ao H H') ?_ ?_ ?_⟩
    . exact⟨_,_,_,_,_,_,_,_,_,rfl,P12,rp12,s12⟩
    . clear P12 rp12 s12 ov' pa qs paper
      rintro i GK H13 hi ⟨ov',pa,qs,paper,u0,u1,u2,u3,u4,rfl,P13,rp13,s13⟩
      rw [Int.zero_add]
      refine cY ?_
      refine⟨_,rfl,_,rfl,a,ns,i,rfl,s13.seq hS,(by omega),fun b3 H14 nb3 B14 s14=>?_⟩
      refine⟨_,rfl,b3,4,rfl,B14,⟨by decide,by decide +kernel⟩,fun way H15 w0 w1 B15 X15=>?_⟩
      refine⟨_,rfl,_,rfl,_,_,rfl,?_⟩
      have kp15:∀p zs,H13 p=some (.tup zs)->H15 p=some (.tup zs):=fun p zs e=>X15 p _ (s14 _ _ e) (B14.bI (s14 _ _ e))
      have s15:ao H H15:=ao.iA (s13.trans s14) (s13.free nb3) X15
      have P15:=P13.aK kp15
      have rp15:=rp13.aK kp15 (bR ps)
      have hplen:paper.length=qs.length:=P15.hold.len
      have hq0:=P15.pos
      have hqlt:=P15.lt
      obtain⟨us,hpa15,hpp15⟩:=P15.pp
      have nb3':H b3=none:=s13.free nb3
      clear P13 rp13 X15 kp15 B14 s14
      refine⟨fun σ' H'=>∃(ma:Addr) (us':List V) (more:List Pp),σ' = [some (.ref a),some (.ref b3),some plv,some ov',some (.ref pa),some (.int (i:Nat)),some (.int way),some ov',some (.ref ma)]/\H' ma=some (.tup us')/\cF H' us' more/\(∀c∈more,cA xs c.2)/\0<more.length/\more.length<=400/\bU H' b3/\Fix b3 H15 H',?_,?_⟩
      . refine⟨_,rfl,rfl,_,rfl,?_⟩
        refine cB (fun hc=>?_) (fun hc=>?_)
        . obtain⟨pp,vs,rfl,e1,rvs⟩:=aY.bZ (show aY H15 plv (.tuple (ps.map dY)) from rp15)
          refine⟨_,rfl,_,rfl,_,rfl,pp,_,rfl,.inr (av.of e1),b3,pa,us,paper,xs,_,rfl,B15,hpa15,hpp15,P15.tok,hzz,hx50,(by omega),(by omega),fun t us' more H16 ht hv hk h0 h4 B16 X16=>?_⟩
          exact⟨t,us',more,rfl,ht,hv,hk,h0,h4,B16,X16⟩
        . exact⟨pa,us,paper,rfl,hpa15,hpp15,P15.tok,by omega,by omega,B15,Fix.refl b3 H15⟩
      rintro σ' H16 ⟨ma,us',more,rfl,hma,hmv,hmk,hm0,hm4,B16,X16⟩
      have kp16:∀p zs,H15 p=some (.tup zs)->H16 p=some (.tup zs):=fun p zs e=>X16 p _ e (B15.bI e)
      have P16:=P15.aK kp16
      have rp16:=rp15.aK kp16 (bR ps)
      have s16:ao H H16:=ao.iA s15 nb3' X16
      clear P15 rp15 hpa15 hpp15 kp16 X16 B15 s15
      refine⟨fun σ' H'=>∃(tv:V) (qs':List Piece),σ' = [some (.ref a),some (.ref b3),some plv,some ov',some (.ref pa),some (.int (i:Nat)),some (.int way),some tv,some (.ref ma)]/\aY H' tv (dM qs')/\qs'.length=qs.length/\cT qs'/\mH qs'/\(∀p∈qs',p.1.length<=12)/\bU H' b3/\Fix b3 H16 H',?_,?_⟩
      . refine⟨_,rfl,rfl,_,rfl,?_⟩
        refine Fm ?_ (fun body hc=>?_)
        . refine⟨_,rfl,_,rfl,b3,ov',qs,rfl,B16,P16.ro,P16.z6,P16.lay,P16.bB,hq0,(by omega),fun v qs' H17 g1 g2 g3 g4 g5 B17 X17=>?_⟩
          exact⟨v,qs',rfl,g1,g2,g3,g4,g5,B17,X17⟩
        . refine⟨_,rfl,rfl,_,rfl,?_⟩
          refine cB (fun hd=>body) (fun hd=>?_)
          exact⟨ov',qs,rfl,P16.ro,rfl,P16.z6,P16.lay,P16.bB,B16,Fix.refl b3 H16⟩
      rintro σ' H17 ⟨tv,qs',rfl,htv,hql,inq',layq',few',B17,X17⟩
      have kp17:∀p zs,H16 p=some (.tup zs)->H17 p=some (.tup zs):=fun p zs e=>X17 p _ e (B16.bI e)
      have P17:=P16.aK kp17
      have rp17:=rp16.aK kp17 (bR ps)
      have hma17:=kp17 _ _ hma
      have hmv17:=hmv.aK kp17
      have s17:ao H H17:=ao.iA s16 nb3' X17
      clear P16 rp16 hma hmv kp17 X17 B16 s16
      refine⟨fun σ' H'=>∃(ov2:V) (pa2:Addr) (qs2:List Piece) (paper2:List Pp),σ' = [some (.ref a),some (.ref b3),some plv,some ov2,some (.ref pa2),some (.int (i:Nat)),some (.int way),some tv,some (.ref ma)]/\iQ H' ov2 pa2 ps qs2 paper2 xs/\ao H17 H',?_,?_⟩
      . refine⟨_,rfl,_,rfl,_,rfl,plv,tv,ma,ps,qs',us',more,xs,12,rfl,rp17,htv,hma17,hmv17,pok12,inq',layq',nok,hmk,hx50,(by decide),hn0,(by omega),hm0,(by omega),fun bb H18 hb s18=>?_⟩
        refine⟨_,_,rfl,rfl,_,rfl,?_⟩
        cases bb with
        | true =>
          refine cu rfl ?_
          refine⟨_,rfl,_,rfl,_,_,rfl,?_⟩
          exact⟨tv,ma,qs',more,rfl,⟨htv.same s18 (bR qs'),⟨us',s18 _ _ hma17,cF.same hmv17 s18⟩,hb.mp rfl,hmk,inq',layq',few',by omega⟩,s18⟩
        | false =>
          refine bc rfl ?_
          exact⟨ov',pa,qs,paper,rfl,P17.aK fun p zs e=>s18 _ _ e,s18⟩
      rintro σ' H18 ⟨ov2,pa2,qs2,paper2,rfl,P18,s18⟩
      have rp18:=rp17.same s18 (bR ps)
      have B18:=B17.same s18
      have s018:=s17.trans s18
      obtain⟨us2,hpa18,hpp18⟩:=P18.pp
      have hq2:=P18.pos
      have hl2:=P18.hold.len
      have hlt2:=P18.lt
      refine⟨_,rfl,_,rfl,_,rfl,plv,ov2,pa2,ps,qs2,us2,paper2,xs,12,rfl,rp18,P18.ro,hpa18,hpp18,pok12,P18.z6,P18.lay,nok,P18.tok,hx50,(by decide),hn0,(by omega),(by omega),(by omega),fun bb H19 hb s19=>?_⟩
      obtain rfl:bb=true:=hb.mpr P18.hold
      refine⟨_,_,rfl,rfl,_,rfl,?_⟩
      refine bc rfl ?_
      have P19:=P18.aK fun p zs e=>s19 _ _ e
      have rp19:=rp18.same s19 (bR ps)
      refine⟨_,rfl,_,rfl,_,rfl,_,rfl,b3,pa2,plv,ov2,ps,qs2,us2,paper2,rfl,B18.same s19,rp19,P19.ro,s19 _ _ hpa18,cF.same hpp18 s19,hin,P19.z6,hn0,P19.hold,fun H20 B20 X20=>?_⟩
      refine⟨_,rfl,?_⟩
      refine bc rfl ?_
      have kp20:∀p zs,H19 p=some (.tup zs)->H20 p=some (.tup zs):=fun p zs e=>X20 p _ e ((B18.same s19).bI e)
      exact⟨ov2,pa2,qs2,paper2,_,_,_,_,_,rfl,P19.aK kp20,rp19.aK kp20 (bR ps),ao.iA (s018.trans s19) nb3' X20⟩
    . rintro GK H13 ⟨_,_,_,_,_,_,_,_,_,rfl,_,_,_⟩
      exact q _
end
theorem all_mk {l:PySem.W.OpenLaw} {w:World} {K:GP} {h:Heap} {mg:Str->Option Value} {fa:Addr} (X:K.In h) (G:h.Ns mainGlobals mg) (hfa:mg "law" = some (.ref fa))
  {f0 f1 f2 f3 f4 f5 f6 f7 f8 f9 f10 f11 f12 f13 f14 f15 f16 f17 f18 f19 f20 f21 f22 f23 f24 f25 f26 f27 f28 f29 f30 f31 f32 f33 f34 f35 f36 f37 f38 f39 f40 f41 f42 f43 f44 f45 f46 f47 f48 f49 f50 f51 f52 f53:Addr} {g0 g1 g2 g3 g4 g5 g6 g7 g8 g9 g10 g11 g12 g13 g14 g15 g16 g17 g18 g19 g20 g21 g22 g23 g24 g25 g26 g27 g28 g29 g30 g31 g32 g33 g34 g35 g36 g37 g38 g39 g40 g41 g42 g43 g44 g45 g46 g47 g48 g49 g50 g51 g52 g53:FuncData}
  {aA:Addr} {dcA:Option Addr} {nA:Nat} {slA:Array (Option Value)}
  {tk_MOST_TO_LEAD:Tok}
  {aE:Addr} {epE:Nat} {s0:Addr} {hsE0:Int} {tkE0:Tok} {dcE0:Option Addr} {nnE0:Nat} {slE0:Array (Option Value)}  {s1:Addr} {hsE1:Int} {tkE1:Tok} {dcE1:Option Addr} {nnE1:Nat} {slE1:Array (Option Value)} {ttE1_0:Tok} {s2:Addr} {hsE2:Int} {tkE2:Tok} {dcE2:Option Addr} {nnE2:Nat} {slE2:Array (Option Value)} {ttE2_0:Tok} {ttE2_1:Tok} {ttE2_2:Tok} {ttE2_3:Tok} {s3:Addr} {hsE3:Int} {tkE3:Tok} {dcE3:Option Addr} {nnE3:Nat} {slE3:Array (Option Value)} {ttE3_0:Tok} {ttE3_1:Tok} {ttE3_2:Tok} {ttE3_3:Tok}
  {aD:Addr} {epD:Nat} {d0:Addr} {hsD0:Int} {tkD0:Tok} {dcD0:Option Addr} {nnD0:Nat} {slD0:Array (Option Value)} {ttD0_0:Tok} {ttD0_1:Tok} {d1:Addr} {hsD1:Int} {tkD1:Tok} {dcD1:Option Addr} {nnD1:Nat} {slD1:Array (Option Value)} {ttD1_0:Tok} {ttD1_1:Tok} {d2:Addr} {hsD2:Int} {tkD2:Tok} {dcD2:Option Addr} {nnD2:Nat} {slD2:Array (Option Value)} {ttD2_0:Tok} {ttD2_1:Tok} {d3:Addr} {hsD3:Int} {tkD3:Tok} {dcD3:Option Addr} {nnD3:Nat} {slD3:Array (Option Value)} {ttD3_0:Tok} {d4:Addr} {hsD4:Int} {tkD4:Tok} {dcD4:Option Addr} {nnD4:Nat} {slD4:Array (Option Value)} {ttD4_0:Tok}
  {C:Addr}
  (z_len:Ho K mainGlobals "len" = some none)
  (z_zip:Ho K mainGlobals "zip" = some none)
  (z_tuple:Ho K mainGlobals "tuple" = some none)
  (z_sorted:Ho K mainGlobals "sorted" = some none)
  (z_set:Ho K mainGlobals "set" = some none)
  (z_dict:Ho K mainGlobals "dict" = some none)
  (z_min:Ho K mainGlobals "min" = some none)
  (z_max:Ho K mainGlobals "max" = some none)
  (z_range:Ho K mainGlobals "range" = some none)
  (z_list:Ho K mainGlobals "list" = some none)
  (z_int:Ho K mainGlobals "int" = some none)
  (z_all:Ho K mainGlobals "all" = some none)
  (gA:Ho K mainGlobals "ALL" = some (some (.ref aA))) (lA:K.lookup aA=some ⟨.type "tuple",dcA,.seq #[.none,.none] nA,slA⟩)
  (g_MOST_TO_LEAD:Ho K mainGlobals "MOST_TO_LEAD" = some (some (.int 60 tk_MOST_TO_LEAD)))
  (gE:Ho K mainGlobals "END_PARTS" = some (some (.ref aE))) (lE:K.lookup aE=some ⟨.type "dict",none,.dict #[⟨hsE0,.str "stop" tkE0,.ref s0⟩,⟨hsE1,.str "go" tkE1,.ref s1⟩,⟨hsE2,.str "less" tkE2,.ref s2⟩,⟨hsE3,.str "is" tkE3,.ref s3⟩] epE,#[]⟩) (qE0:K.lookup s0=some ⟨.type "tuple",dcE0,.seq #[] nnE0,slE0⟩) (qE1:K.lookup s1=some ⟨.type "tuple",dcE1,.seq #[.str "piece" ttE1_0] nnE1,slE1⟩) (qE2:K.lookup s2=some ⟨.type "tuple",dcE2,.seq #[.str "name" ttE2_0,.str "number" ttE2_1,.str "piece" ttE2_2,.str "piece" ttE2_3] nnE2,slE2⟩) (qE3:K.lookup s3=some ⟨.type "tuple",dcE3,.seq #[.str "name" ttE3_0,.str "number" ttE3_1,.str "piece" ttE3_2,.str "piece" ttE3_3] nnE3,slE3⟩)
  (gD:Ho K mainGlobals "DEED_PARTS" = some (some (.ref aD))) (lD:K.lookup aD=some ⟨.type "dict",none,.dict #[⟨hsD0,.str "put" tkD0,.ref d0⟩,⟨hsD1,.str "copy" tkD1,.ref d1⟩,⟨hsD2,.str "add" tkD2,.ref d2⟩,⟨hsD3,.str "read" tkD3,.ref d3⟩,⟨hsD4,.str "tell" tkD4,.ref d4⟩] epD,#[]⟩) (qD0:K.lookup d0=some ⟨.type "tuple",dcD0,.seq #[.str "name" ttD0_0,.str "number" ttD0_1] nnD0,slD0⟩) (qD1:K.lookup d1=some ⟨.type "tuple",dcD1,.seq #[.str "name" ttD1_0,.str "name" ttD1_1] nnD1,slD1⟩) (qD2:K.lookup d2=some ⟨.type "tuple",dcD2,.seq #[.str "name" ttD2_0,.str "number" ttD2_1] nnD2,slD2⟩) (qD3:K.lookup d3=some ⟨.type "tuple",dcD3,.seq #[.str "name" ttD3_0] nnD3,slD3⟩) (qD4:K.lookup d4=some ⟨.type "tuple",dcD4,.seq #[.str "name" ttD4_0] nnD4,slD4⟩)
  (aCC:Ho K mainGlobals "Row" = some (some (.ref C))) (pgC:ID K C Str.empty=true) (hdC:IU K C=true) (poC:Jq K C=true) (saC:Hx K (.ref C) "__setattr__" = some (some (.builtin "object.__setattr__"))) (mkC:IV K C=true) (kcC:HF K (.ref C)=true)
  (nC_members:Hx K (.ref C) "members" = some none)
  (nC_places:Hx K (.ref C) "places" = some none)
  (D0:bD K "parts_of_kind" gS f0 g0)
  (D1:bD K "ways_on" mT f1 g1)
  (D2:bD K "without_ways" ia f2 g2)
  (D3:bD K "names_of" kR f3 g3)
  (D4:bD K "lies_in" mU f4 g4)
  (D5:bD K "part_below" jr f5 g5)
  (D6:bD K "part_from" jO f6 g6)
  (D7:bD K "part_at" mV f7 g7)
  (D8:bD K "part_beside" iH f8 g8)
  (D9:bD K "part_of" mW f9 g9)
  (D10:bD K "is_within" jP f10 g10)
  (D11:bD K "facts_of" kU f11 g11)
  (D12:bD K "known" rH f12 g12)
  (D13:bD K "with_known" jt f13 g13)
  (D14:bD K "holds" rJ f14 g14)
  (D15:bD K "covers" oZ f15 g15)
  (D16:bD K "moved" rK f16 g16)
  (D17:bD K "stretch_behind" gm f17 g17)
  (D18:bD K "behind" o2 f18 g18)
  (D19:bD K "known_beyond" ic f19 g19)
  (D20:bD K "leads" rL f20 g20)
  (D21:bD K "start" rM f21 g21)
  (D22:qr K C "__init__" "Row.__init__" ie f22 g22)
  (D23:qr K C "place_of" "Row.place_of" ig f23 g23)
  (D24:bD K "reached" mY f24 g24)
  (D25:bD K "heads" rN f25 g25)
  (D26:bD K "copy_for" kX f26 g26)
  (D27:bD K "end_to" o4 f27 g27)
  (D28:bD K "led_past" kY f28 g28)
  (D29:bD K "meets" rO f29 g29)
  (D30:bD K "same_end_holds" gn f30 g30)
  (D31:bD K "end_holds" jQ f31 g31)
  (D32:bD K "piece_holds" iI f32 g32)
  (D33:bD K "paper_holds" iJ f33 g33)
  (D34:bD K "_law_bag" m3 f34 g34)
  (D35:bD K "_law_take" lg f35 g35)
  (D36:bD K "_law_names" jR f36 g36)
  (D37:bD K "_law_number" ju f37 g37)
  (D38:bD K "_law_deed" lh f38 g38)
  (D39:bD K "_law_end" m5 f39 g39)
  (D40:bD K "_law_plan" lj f40 g40)
  (D41:bD K "_law_count" jT f41 g41)
  (D42:bD K "_law_step" ll f42 g42)
  (D43:bD K "_law_walk" lr f43 g43)
  (D44:bD K "_law_input" jU f44 g44)
  (D45:bD K "_law_with" lB f45 g45)
  (D46:bD K "_law_told" lC f46 g46)
  (D47:bD K "_law_table_of" ij f47 g47)
  (D48:bD K "_law_facts_spoilt" fP f48 g48)
  (D49:bD K "_law_end_spoilt" gr f49 g49)
  (D50:bD K "_law_other_spoilt" fQ f50 g50)
  (D51:bD K "_law_paper_spoilt" fR f51 g51)
  (D52:bD K "_law_alike" jW f52 g52)
  (D53:bD K "law" nG f53 g53) :
  ∃fd:FuncData,(∀(s:Shared) (v:Value),BindsTo s fd ⟨[v],[]⟩ [("script",v)])/\∀base:Heap,K.In base->base.Ns mainGlobals mg->bp l.prog w K mg base bT 11 fa fd ["script"] (tT K):=by
 have e:=hfa.symm.trans (Il X G D53.a)
 cases e
 have Z:Bl mg:=⟨Hz X G z_len,Hz X G z_zip,Hz X G z_tuple,Hz X G z_sorted,Hz X G z_set,Hz X G z_dict,Hz X G z_min,Hz X G z_max,Hz X G z_range,Hz X G z_list,Hz X G z_int,Hz X G z_all⟩
 have GA:hZ K mg aA:=⟨Il X G gA,_,_,_,lA⟩
 have G_MOST_TO_LEAD:mg "MOST_TO_LEAD" = some (.int 60 tk_MOST_TO_LEAD):=Il X G g_MOST_TO_LEAD
 have GE:uG K mg aE s0 s1 s2 s3:=⟨⟨Il X G gE,_,_,lE,(.cons rfl rfl (.cons rfl rfl (.cons rfl rfl (.cons rfl rfl .nil))))⟩,⟨_,_,_,qE0,rfl,rfl,(by show 0<=sizeLine;decide),.nil⟩,⟨_,_,_,qE1,rfl,rfl,(by show 1<=sizeLine;decide),(.cons ⟨_,rfl⟩ .nil)⟩,⟨_,_,_,qE2,rfl,rfl,(by show 4<=sizeLine;decide),(.cons ⟨_,rfl⟩ (.cons ⟨_,rfl⟩ (.cons ⟨_,rfl⟩ (.cons ⟨_,rfl⟩ .nil))))⟩,⟨_,_,_,qE3,rfl,rfl,(by show 4<=sizeLine;decide),(.cons ⟨_,rfl⟩ (.cons ⟨_,rfl⟩ (.cons ⟨_,rfl⟩ (.cons ⟨_,rfl⟩ .nil))))⟩⟩
 have GD:tV K mg aD d0 d1 d2 d3 d4:=⟨⟨Il X G gD,_,_,lD,(.cons rfl rfl (.cons rfl rfl (.cons rfl rfl (.cons rfl rfl (.cons rfl rfl .nil)))))⟩,⟨_,_,_,qD0,rfl,rfl,(by show 2<=sizeLine;decide),(.cons ⟨_,rfl⟩ (.cons ⟨_,rfl⟩ .nil))⟩,⟨_,_,_,qD1,rfl,rfl,(by show 2<=sizeLine;decide),(.cons ⟨_,rfl⟩ (.cons ⟨_,rfl⟩ .nil))⟩,⟨_,_,_,qD2,rfl,rfl,(by show 2<=sizeLine;decide),(.cons ⟨_,rfl⟩ (.cons ⟨_,rfl⟩ .nil))⟩,⟨_,_,_,qD3,rfl,rfl,(by show 1<=sizeLine;decide),(.cons ⟨_,rfl⟩ .nil)⟩,⟨_,_,_,qD4,rfl,rfl,(by show 1<=sizeLine;decide),(.cons ⟨_,rfl⟩ .nil)⟩⟩
 have T:uT K C:=⟨⟨pgC,hdC,poC,saC⟩,nC_members,nC_places⟩
 obtain⟨oc,od,kV,dc,pm,an,cd,ct,sl,rfl,lk,hcd⟩:=D53.F.ex
 refine⟨Hu "law" "law" (dU nG) (dB nG) (ay nG) .none kV dc pm an cd ct,fun s v=>.of_eq rfl,fun base _ _=>?_⟩
 have O_parts_of_kind:=bf l.prog w base X G D0 (o5 D0.F Z) (om fun _ _ _ _ _ _ _ _ _=>rfl)
 have O_ways_on:=bf l.prog w base X G D1 (yn D1.F Z GE O_parts_of_kind) (lK fun _ _ _ _ _ _ _=>rfl)
 have O_without_ways:=bf l.prog w base X G D2 (qy D2.F Z O_ways_on) (lK fun _ _ _ _ _ _ _=>rfl)
 have O_names_of:=bf l.prog w base X G D3 (vT D3.F Z GD GE O_parts_of_kind) (lK fun _ _ _ _ _ _ _=>rfl)
 have O_lies_in:=bf l.prog w base X G D4 (yo D4.F Z) (fA fun _ _ _ _ _ _ _ _=>rfl)
 have O_part_below:=bf l.prog w base X G D5 (tN D5.F Z) (fA fun _ _ _ _ _ _ _ _=>rfl)
 have O_part_from:=bf l.prog w base X G D6 (vt D6.F Z) (fA fun _ _ _ _ _ _ _ _=>rfl)
 have O_part_at:=bf l.prog w base X G D7 (yq D7.F Z O_lies_in) (fA fun _ _ _ _ _ _ _ _=>rfl)
 have O_part_beside:=bf l.prog w base X G D8 (rQ D8.F Z) (fA fun _ _ _ _ _ _ _ _=>rfl)
 have O_part_of:=bf l.prog w base X G D9 (yr D9.F Z O_part_below O_part_from O_part_at O_part_beside) (xl fun _ _ _ _ _ _ _ _ _ _=>rfl)
 have O_is_within:=bf l.prog w base X G D10 (vv D10.F Z) (fA fun _ _ _ _ _ _ _ _=>rfl)
 have O_facts_of:=bf l.prog w base X G D11 (vU D11.F Z GA) (lK fun _ _ _ _ _ _ _=>rfl)
 have O_known:=bf l.prog w base X G D12 (BM D12.F Z GA) (fA fun _ _ _ _ _ _ _ _=>rfl)
 have O_with_known:=bf l.prog w base X G D13 (tO D13.F Z GA O_facts_of) (om fun _ _ _ _ _ _ _ _ _=>rfl)
 have O_holds:=bf l.prog w base X G D14 (BN D14.F Z O_lies_in) (fA fun _ _ _ _ _ _ _ _=>rfl)
 have O_covers:=bf l.prog w base X G D15 (z9 D15.F Z GA O_is_within) (fA fun _ _ _ _ _ _ _ _=>rfl)
 have O_moved:=bf l.prog w base X G D16 (BO D16.F Z) (fA fun _ _ _ _ _ _ _ _=>rfl)
 have O_stretch_behind:=bf l.prog w base X G D17 (nJ D17.F Z GA O_moved) (fA fun _ _ _ _ _ _ _ _=>rfl)
 have O_behind:=bf l.prog w base X G D18 (Aa D18.F Z GA O_stretch_behind O_facts_of) (fA fun _ _ _ _ _ _ _ _=>rfl)
 have O_known_beyond:=bf l.prog w base X G D19 (qA D19.F Z GA O_ways_on O_known O_part_of O_with_known) (fA fun _ _ _ _ _ _ _ _=>rfl)
 have O_leads:=bf l.prog w base X G D20 (BP D20.F Z O_known_beyond O_ways_on) (fA fun _ _ _ _ _ _ _ _=>rfl)
 have O_start:=bf l.prog w base X G D21 (BQ D21.F Z O_names_of) (lK fun _ _ _ _ _ _ _=>rfl)
 have O_Row___init__:=Dr l.prog w base X G aCC mkC kcC D22 (qB D22.F Z T) (fA fun _ _ _ _ _ _ _ _=>rfl)
 have O_Row_place_of:=Dq l.prog w base mg T.cl D23 (qC D23.F Z T) (fA fun _ _ _ _ _ _ _ _=>rfl)
 have O_reached:=bf l.prog w base X G D24 (yt D24.F Z O_ways_on) (lK fun _ _ _ _ _ _ _=>rfl)
 have O_heads:=bf l.prog w base X G D25 (BR D25.F Z O_reached O_ways_on) (lK fun _ _ _ _ _ _ _=>rfl)
 have O_copy_for:=bf l.prog w base X G D26 (vV D26.F Z) (xl fun _ _ _ _ _ _ _ _ _ _=>rfl)
 have O_end_to:=bf l.prog w base X G D27 (Ab D27.F Z O_without_ways) (fA fun _ _ _ _ _ _ _ _=>rfl)
 have O_led_past:=bf l.prog w base X G D28 (vW D28.F Z G_MOST_TO_LEAD T O_heads O_start O_Row___init__ O_Row_place_of O_behind O_leads O_copy_for O_end_to) (fA fun _ _ _ _ _ _ _ _=>rfl)
 have O_meets:=bf l.prog w base X G D29 (BS D29.F Z O_covers) (fA fun _ _ _ _ _ _ _ _=>rfl)
 have O_same_end_holds:=bf l.prog w base X G D30 (nK D30.F Z O_ways_on O_known_beyond O_meets) (xl fun _ _ _ _ _ _ _ _ _ _=>rfl)
 have O_end_holds:=bf l.prog w base X G D31 (vw D31.F Z O_without_ways O_same_end_holds O_leads O_meets) (xl fun _ _ _ _ _ _ _ _ _ _=>rfl)
 have O_piece_holds:=bf l.prog w base X G D32 (rR D32.F Z O_end_holds O_behind) (xl fun _ _ _ _ _ _ _ _ _ _=>rfl)
 have O_paper_holds:=bf l.prog w base X G D33 (rS D33.F Z O_holds O_piece_holds) (om fun _ _ _ _ _ _ _ _ _=>rfl)
 have O_law_bag:=bf l.prog w base X G D34 (yu D34.F Z) (fA fun _ _ _ _ _ _ _ _=>rfl)
 have O_law_take:=bf l.prog w base X G D35 (vX D35.F Z) (fA fun _ _ _ _ _ _ _ _=>rfl)
 have O_law_names:=bf l.prog w base X G D36 (vx D36.F Z O_law_take) (lK fun _ _ _ _ _ _ _=>rfl)
 have O_law_number:=bf l.prog w base X G D37 (tP D37.F Z O_law_take) (lK fun _ _ _ _ _ _ _=>rfl)
 have O_law_deed:=bf l.prog w base X G D38 (vY D38.F Z O_law_take O_law_number) (fA fun _ _ _ _ _ _ _ _=>rfl)
 have O_law_end:=bf l.prog w base X G D39 (yw D39.F Z O_law_take O_law_number) (om fun _ _ _ _ _ _ _ _ _=>rfl)
 have O_law_plan:=bf l.prog w base X G D40 (vZ D40.F Z O_law_take O_law_names O_law_deed O_law_end) (om fun _ _ _ _ _ _ _ _ _=>rfl)
 have O_law_count:=bf l.prog w base X G D41 (vy D41.F Z O_law_take) (fA fun _ _ _ _ _ _ _ _=>rfl)
 have O_law_step:=bf l.prog w base X G D42 (v5 D42.F Z) (om fun _ _ _ _ _ _ _ _ _=>rfl)
 have O_law_walk:=bf l.prog w base X G D43 (v7 D43.F Z O_law_step) (om fun _ _ _ _ _ _ _ _ _=>rfl)
 have O_law_input:=bf l.prog w base X G D44 (vz D44.F Z O_law_take O_law_number) (lK fun _ _ _ _ _ _ _=>rfl)
 have O_law_with:=bf l.prog w base X G D45 (v9 D45.F Z) (om fun _ _ _ _ _ _ _ _ _=>rfl)
 have O_law_told:=bf l.prog w base X G D46 (wa D46.F Z) (lK fun _ _ _ _ _ _ _=>rfl)
 have O_law_table_of:=bf l.prog w base X G D47 (qD D47.F Z) (lK fun _ _ _ _ _ _ _=>rfl)
 have O_law_facts_spoilt:=bf l.prog w base X G D48 (lN D48.F Z O_law_table_of O_law_take O_law_told O_law_with) (fA fun _ _ _ _ _ _ _ _=>rfl)
 have O_law_end_spoilt:=bf l.prog w base X G D49 (nL D49.F Z O_law_take) (om fun _ _ _ _ _ _ _ _ _=>rfl)
 have O_law_other_spoilt:=bf l.prog w base X G D50 (lO D50.F Z O_law_take O_law_end_spoilt) (fA fun _ _ _ _ _ _ _ _=>rfl)
 have O_law_paper_spoilt:=bf l.prog w base X G D51 (lP D51.F Z O_law_take O_law_facts_spoilt) (om fun _ _ _ _ _ _ _ _ _=>rfl)
 have O_law_alike:=bf l.prog w base X G D52 (vA D52.F Z O_law_input O_law_take O_law_walk) (xl fun _ _ _ _ _ _ _ _ _ _=>rfl)
 exact ER D53.F Z T O_law_bag O_law_take O_law_count O_law_plan O_led_past O_law_paper_spoilt O_law_other_spoilt O_paper_holds O_law_alike
theorem walk {l:PySem.W.OpenLaw}{q:Program}{loose:List Str}{XP:(Str->Option Value)->Heap->Prop}{YP:World->Heap->Prop}{d:DefRec}{K:Params->GP}(hn:l.most=some 63)(hdf:d.params.defaults=[])
  (hY:∀(w:World) (h:Heap),YP w h->(K w.params).In h)
  (F:∀(w:World) (mg:Str->Option Value) (fa:Addr) (h:Heap),(K w.params).In h->h.Ns mainGlobals mg->mg d.name=some (.ref fa) ->
   ∃fd:FuncData,(∀(s:Shared) (u:Value),BindsTo s fd ⟨[u],[]⟩ [("script",u)])/\∀base:Heap,(K w.params).In base->base.Ns mainGlobals mg->bp l.prog w (K w.params) mg base bT 11 fa fd ["script"] (tT (K w.params))) :
  PySem.W.WalkO q loose XP YP l.row.toRowW d [] (fun f vs=>PySem.call f vs) :=
 L2.CN (n:=63) (k:=11) (x := "script") (CX:=fun _=>bT) (sp:=fun w=>tT (K w.params)) hn (by decide) hdf ⟨rfl,by decide,by decide⟩ hY F (fun _ _ a ns hl _ hS=>⟨a,ns,rfl,hS,hl,fun _=>rfl⟩) fun _ _ _ _ _ z=>z
end My
theorem PySem.W.Fast.tw14992032309864435503:True:=trivial
theorem PySem.W.Fast.tw1638151866199140382:True:=trivial
theorem PySem.W.Fast.tw12025934774451197408:True:=trivial
theorem PySem.W.Fast.tw12628447224423859043:True:=trivial
theorem PySem.W.Fast.tw4736605589504303210:True:=trivial
theorem PySem.W.Fast.tw12885476571483674195:True:=trivial
theorem PySem.W.Fast.tw5808702340454467509:True:=trivial
theorem PySem.W.Fast.tw4441744044397261973:True:=trivial
theorem PySem.W.Fast.tw17329396194552873957:True:=trivial
theorem PySem.W.Fast.tw7823313799565515356:True:=trivial
theorem PySem.W.Fast.tw13394830478901277938:True:=trivial
theorem PySem.W.Fast.tw16681931666402763947:True:=trivial
theorem PySem.W.Fast.tw7565083792113636196:True:=trivial
theorem PySem.W.Fast.tw4546408193119551294:True:=trivial
theorem PySem.W.Fast.tw10930723833993161389:True:=trivial
theorem PySem.W.Fast.tw9456407359146860133:True:=trivial
theorem PySem.W.Fast.tw2011076971411929599:True:=trivial
theorem PySem.W.Fast.tw17716451053572649515:True:=trivial
theorem PySem.W.Fast.tw2140559615304661409:True:=trivial
theorem PySem.W.Fast.tw3722029353895274986:True:=trivial
theorem PySem.W.Fast.tw12925011593746286275:True:=trivial
theorem PySem.W.Fast.tw9445956333807535199:True:=trivial
theorem PySem.W.Fast.tw13151705394476829599:True:=trivial
theorem PySem.W.Fast.tw16302162210280002609:True:=trivial
theorem PySem.W.Fast.tw13938985907291280621:True:=trivial
theorem PySem.W.Fast.tw12618330783435748526:True:=trivial
theorem PySem.W.Fast.tw2887746936304796604:True:=trivial
theorem PySem.W.Fast.tw11898063756595063756:True:=trivial
theorem PySem.W.Fast.tw2250793579527451074:True:=trivial
theorem PySem.W.Fast.tw7615040090396140595:True:=trivial
theorem PySem.W.Fast.tw4536317772268593566:True:=trivial
theorem PySem.W.Fast.tw7684413355523162043:True:=trivial
theorem PySem.W.Fast.tw11184378253406244929:True:=trivial
theorem PySem.W.Fast.tw593812379316032687:True:=trivial
theorem PySem.W.Fast.tw4854328592505447208:True:=trivial
theorem PySem.W.Fast.tw7015087484628796748:True:=trivial
theorem PySem.W.Fast.tw6881913591834566948:True:=trivial
theorem PySem.W.Fast.tw10271787203504637891:True:=trivial
theorem PySem.W.Fast.tw7497106194642889626:True:=trivial
theorem PySem.W.Fast.tw2369597019939054138:True:=trivial
theorem PySem.W.Fast.tw8151473663556946879:True:=trivial
theorem PySem.W.Fast.tw7092762716646430590:True:=trivial
theorem PySem.W.Fast.tw1808624541641399672:True:=trivial
theorem PySem.W.Fast.tw13390214408612781605:True:=trivial
theorem PySem.W.Fast.tw4775665157979138555:True:=trivial
theorem PySem.W.Fast.tw8872998052599390341:True:=trivial
theorem PySem.W.Fast.tw13883173197498668085:True:=trivial
theorem PySem.W.Fast.tw8945217481557568482:True:=trivial
theorem PySem.W.Fast.tw13195657782529659868:True:=trivial
theorem PySem.W.Fast.tw3789504252692651750:True:=trivial
theorem PySem.W.Fast.tw17342537968194288321:True:=trivial
theorem PySem.W.Fast.tw2290334616905289559:True:=trivial
theorem PySem.W.Fast.tw8399173909916700402:True:=trivial
theorem PySem.W.Fast.tw6649689971410824082:True:=trivial
theorem PySem.W.Fast.tw7583810673624765107:True:=trivial
theorem PySem.W.Fast.tw3759894662663441800:True:=trivial
theorem PySem.W.Fast.tw9795557607074263967:True:=trivial
theorem PySem.W.Fast.tw936958156981103301:True:=trivial
theorem PySem.W.Fast.tw5260868686005729278:True:=trivial
theorem PySem.W.Fast.tw1281567863018664149:True:=trivial
theorem PySem.W.Fast.tw2107332158938095628:True:=trivial
theorem PySem.W.Fast.tw460250104454416772:True:=trivial
theorem PySem.W.Fast.tw5321444774759416818:True:=trivial
theorem PySem.W.Fast.tw17423146818521653207:True:=trivial
theorem PySem.W.Fast.tw10165613649443048107:True:=trivial
theorem PySem.W.Fast.tw13555213335409669122:True:=trivial
theorem PySem.W.Fast.tw8753132494748651080:True:=trivial
theorem PySem.W.Fast.tw13293222135234725855:True:=trivial
theorem PySem.W.Fast.tw13782951899767534270:True:=trivial
theorem PySem.W.Fast.tw11952317596990891561:True:=trivial
theorem PySem.W.Fast.tw15291070313338238618:True:=trivial
theorem PySem.W.Fast.tw503406919592614460:True:=trivial
theorem PySem.W.Fast.tw13789176653162677457:True:=trivial
theorem PySem.W.Fast.tw10913688004146667418:True:=trivial
theorem PySem.W.Fast.tw12714075044547917356:True:=trivial
theorem PySem.W.Fast.tw17987403926127437427:True:=trivial
theorem PySem.W.Fast.tw3019839405580991235:True:=trivial
theorem PySem.W.Fast.tw13335438901675802614:True:=trivial
theorem PySem.W.Fast.tw2449438534775757696:True:=trivial
theorem PySem.W.Fast.tw7288932676520961539:True:=trivial
theorem PySem.W.Fast.tw13688610124142206240:True:=trivial
theorem PySem.W.Fast.tw6537105888308196426:True:=trivial
theorem PySem.W.Fast.tw16561015209513303307:True:=trivial
theorem PySem.W.Fast.tw15729092469757763047:True:=trivial
theorem PySem.W.Fast.tw4648712145137192624:True:=trivial
theorem PySem.W.Fast.tw492294963818176069:True:=trivial
theorem PySem.W.Fast.tw3781656194846901897:True:=trivial
theorem PySem.W.Fast.tw8940356742578936654:True:=trivial
theorem PySem.W.Fast.tw4093062611320933277:True:=trivial
theorem PySem.W.Fast.tw4677597340194998959:True:=trivial
theorem PySem.W.Fast.tw3029161341644535118:True:=trivial
theorem PySem.W.Fast.tw16020877773186329042:True:=trivial
theorem PySem.W.Fast.tw15269793494342322719:True:=trivial
theorem PySem.W.Fast.tw17877183609865591354:True:=trivial
theorem PySem.W.Fast.tw12115514004139270620:True:=trivial
theorem PySem.W.Fast.tw10865711517202423330:True:=trivial
theorem PySem.W.Fast.tw6091990290512520286:True:=trivial
theorem PySem.W.Fast.tw7065592357052366716:True:=trivial
theorem PySem.W.Fast.tw5886064487260051043:True:=trivial
theorem PySem.W.Fast.tw9126564345398736690:True:=trivial
theorem PySem.W.Fast.tw4808466268287739906:True:=trivial
theorem PySem.W.Fast.tw2744692427424557835:True:=trivial
theorem PySem.W.Fast.tw17449008065128705349:True:=trivial
theorem PySem.W.Fast.tw5883127999763067897:True:=trivial
theorem PySem.W.Fast.tw11590456290095584049:True:=trivial
theorem PySem.W.Fast.tw2149526074316528792:True:=trivial
theorem PySem.W.Fast.tw16774674540776383909:True:=trivial
theorem PySem.W.Fast.tw4036323510709684440:True:=trivial
theorem PySem.W.Fast.tw11210776270579309947:True:=trivial
theorem PySem.W.Fast.tw10754998248611918116:True:=trivial
theorem PySem.W.Fast.tw17202671081347276986:True:=trivial
theorem PySem.W.Fast.tw575469095125920389:True:=trivial
theorem PySem.W.Fast.tw12617142594902703410:True:=trivial
theorem PySem.W.Fast.tw4645027389757566322:True:=trivial
theorem PySem.W.Fast.tw7607167889757777656:True:=trivial
theorem PySem.W.Fast.tw6217343949300258852:True:=trivial
theorem PySem.W.Fast.tw5035932128102870655:True:=trivial
theorem PySem.W.Fast.tw6742159953261790598:True:=trivial
theorem PySem.W.Fast.tw10582982279860821398:True:=trivial
theorem PySem.W.Fast.tw16522166996773539589:True:=trivial
theorem PySem.W.Fast.tw10188049191536864414:True:=trivial
theorem PySem.W.Fast.tw8602239763248713660:True:=trivial
theorem PySem.W.Fast.tw12285047053678844364:True:=trivial
theorem PySem.W.Fast.tw17262430016348690869:True:=trivial
theorem PySem.W.Fast.tw10746517057835132538:True:=trivial
theorem PySem.W.Fast.tw11659315007612176011:True:=trivial
theorem PySem.W.Fast.tw8229097612746331724:True:=trivial
theorem PySem.W.Fast.tw17955775420033825970:True:=trivial
theorem PySem.W.Fast.tw4883347328084867117:True:=trivial
theorem PySem.W.Fast.tw15961047878211069113:True:=trivial
theorem PySem.W.Fast.tw13480348100103366716:True:=trivial
theorem PySem.W.Fast.tw1181525178196296155:True:=trivial
theorem PySem.W.Fast.tw15326910139639637951:True:=trivial
theorem PySem.W.Fast.tw9385784382834007:True:=trivial
theorem PySem.W.Fast.tw10158026729531994799:True:=trivial
theorem PySem.W.Fast.tw2468795900622375693:True:=trivial
theorem PySem.W.Fast.tw1678397960702439583:True:=trivial
theorem PySem.W.Fast.tw3242727491452420816:True:=trivial
theorem PySem.W.Fast.tw13584502622576180945:True:=trivial
theorem PySem.W.Fast.tw8390793021501140902:True:=trivial
theorem PySem.W.Fast.tw6877832676857622590:True:=trivial
theorem PySem.W.Fast.tw9170537245615255091:True:=trivial
theorem PySem.W.Fast.tw13655104365980801592:True:=trivial
theorem PySem.W.Fast.tw16254123234029993139:True:=trivial
theorem PySem.W.Fast.tw10744438736666974732:True:=trivial
theorem PySem.W.Fast.tw1613270552309735347:True:=trivial
theorem PySem.W.Fast.tw3615495097446516683:True:=trivial
theorem PySem.W.Fast.tw1868009220067986681:True:=trivial
theorem PySem.W.Fast.tw9166568499715898406:True:=trivial
theorem PySem.W.Fast.tw2045744683249171915:True:=trivial
theorem PySem.W.Fast.tw6527925537466067158:True:=trivial
theorem PySem.W.Fast.tw3006698387057994882:True:=trivial
theorem PySem.W.Fast.tw11737270897739036800:True:=trivial
theorem PySem.W.Fast.tw16883155078827163083:True:=trivial
theorem PySem.W.Fast.tw3249361215501866293:True:=trivial
theorem PySem.W.Fast.tw3219644805243761484:True:=trivial
theorem PySem.W.Fast.tw624952359942779507:True:=trivial
theorem PySem.W.Fast.tw8077025276437075934:True:=trivial
theorem PySem.W.Fast.tw13696507700117585285:True:=trivial
theorem PySem.W.Fast.tw6813582887754956704:True:=trivial
theorem PySem.W.Fast.tw11053162846957824728:True:=trivial
theorem PySem.W.Fast.tw7775221610156643628:True:=trivial
theorem PySem.W.Fast.tw11735000510863740569:True:=trivial
theorem PySem.W.Fast.tw3050524324439335987:True:=trivial
theorem PySem.W.Fast.tw6257885449053189827:True:=trivial
theorem PySem.W.Fast.tw6726747609547794902:True:=trivial
theorem PySem.W.Fast.tw9846078132871797831:True:=trivial
theorem PySem.W.Fast.tw16274469677596723216:True:=trivial
theorem PySem.W.Fast.tw14269384944408678251:True:=trivial
theorem PySem.W.Fast.tw15564425601936090917:True:=trivial
theorem PySem.W.Fast.tw8723142048002303891:True:=trivial
theorem PySem.W.Fast.tw4964749289982056244:True:=trivial
theorem PySem.W.Fast.tw996258192260440303:True:=trivial
theorem PySem.W.Fast.tw2593981980829792162:True:=trivial
theorem PySem.W.Fast.tw17999102468837957514:True:=trivial
theorem PySem.W.Fast.tw555965410294173265:True:=trivial
theorem PySem.W.Fast.tw17269751308796204576:True:=trivial
theorem PySem.W.Fast.tw5921191168753571095:True:=trivial
theorem PySem.W.Fast.tw10697609897066093097:True:=trivial
theorem PySem.W.Fast.tw1721919492452460070:True:=trivial
theorem PySem.W.Fast.tw9162045531050538166:True:=trivial
theorem PySem.W.Fast.tw3787261919404237914:True:=trivial
theorem PySem.W.Fast.tw1721388068223359173:True:=trivial
theorem PySem.W.Fast.tw12723885430411279544:True:=trivial
theorem PySem.W.Fast.tw1597507630724801706:True:=trivial
theorem PySem.W.Fast.tw17304285492655103646:True:=trivial
theorem PySem.W.Fast.tw9163176738837096597:True:=trivial
theorem PySem.W.Fast.tw15834115715078451020:True:=trivial
theorem PySem.W.Fast.tw14887355704960575834:True:=trivial
theorem PySem.W.Fast.tw8812737607429279904:True:=trivial
theorem PySem.W.Fast.tw161689303076240118:True:=trivial
theorem PySem.W.Fast.tw675391006473494543:True:=trivial
theorem PySem.W.Fast.tw13397248825513644706:True:=trivial
theorem PySem.W.Fast.tw8386629214062832467:True:=trivial
theorem PySem.W.Fast.tw607764753081349644:True:=trivial
theorem PySem.W.Fast.tw16929528795494635333:True:=trivial
theorem PySem.W.Fast.tw6436242494661596893:True:=trivial
theorem PySem.W.Fast.tw17933584939486265901:True:=trivial
theorem PySem.W.Fast.tw3879411217735357500:True:=trivial
theorem PySem.W.Fast.tw3707332730249709173:True:=trivial
theorem PySem.W.Fast.tw13345985823318770581:True:=trivial
theorem PySem.W.Fast.tw1796475929486461633:True:=trivial
theorem PySem.W.Fast.tw3945016432077924462:True:=trivial
theorem PySem.W.Fast.tw10766691245855565244:True:=trivial
theorem PySem.W.Fast.tw811808741895041782:True:=trivial
theorem PySem.W.Fast.tw3725235774696412985:True:=trivial
theorem PySem.W.Fast.tw11427639390897078023:True:=trivial
theorem PySem.W.Fast.tw11203977506795349249:True:=trivial
theorem PySem.W.Fast.tw11424094872324208689:True:=trivial
theorem PySem.W.Fast.tw15251148896993258385:True:=trivial
theorem PySem.W.Fast.tw459102724463683883:True:=trivial
theorem PySem.W.Fast.tw16326921245595968533:True:=trivial
theorem PySem.W.Fast.tw4786275279310361523:True:=trivial
theorem PySem.W.Fast.tw10530379952663258613:True:=trivial
theorem PySem.W.Fast.tw2282281520841655679:True:=trivial
theorem PySem.W.Fast.tw7115546397522088170:True:=trivial
theorem PySem.W.Fast.tw9243494695706468605:True:=trivial
theorem PySem.W.Fast.tw9152562455668596385:True:=trivial
theorem PySem.W.Fast.tw2736196838733411474:True:=trivial
theorem PySem.W.Fast.tw12174688331309609113:True:=trivial
theorem PySem.W.Fast.tw9944918263590818722:True:=trivial
theorem PySem.W.Fast.tw16833410157432560754:True:=trivial
theorem PySem.W.Fast.tw7332340151464504173:True:=trivial
theorem PySem.W.Fast.tw7598081542244876385:True:=trivial
theorem PySem.W.Fast.tw4248581431662511712:True:=trivial
theorem PySem.W.Fast.tw3699769311603351190:True:=trivial
theorem PySem.W.Fast.tw1416323700828555414:True:=trivial
theorem PySem.W.Fast.tw4895642314526979819:True:=trivial
theorem PySem.W.Fast.tw9307276545587750222:True:=trivial
theorem PySem.W.Fast.tw6529670641254344821:True:=trivial
theorem PySem.W.Fast.tw3287363944085285086:True:=trivial
theorem PySem.W.Fast.tw8765248635792557104:True:=trivial
theorem PySem.W.Fast.tw9766109120563690065:True:=trivial
theorem PySem.W.Fast.tw2292462373144863062:True:=trivial
theorem PySem.W.Fast.tw1975105268471907489:True:=trivial
theorem PySem.W.Fast.tw14653386983551479843:True:=trivial
theorem PySem.W.Fast.tw2380094207845003210:True:=trivial
theorem PySem.W.Fast.tw8935954948370264979:True:=trivial
theorem PySem.W.Fast.tw4125223876486463517:True:=trivial
theorem PySem.W.Fast.tw4914356106637455778:True:=trivial
theorem PySem.W.Fast.tw12049786289721084997:True:=trivial
theorem PySem.W.Fast.tw12367324330578178643:True:=trivial
theorem PySem.W.Fast.tw17709411825386722691:True:=trivial
theorem PySem.W.Fast.tw2587990923889236616:True:=trivial
theorem PySem.W.Fast.tw11676629456292940397:True:=trivial
theorem PySem.W.Fast.tw521897272305145908:True:=trivial
theorem PySem.W.Fast.tw5006647371444053352:True:=trivial
theorem PySem.W.Fast.tw515576956919345002:True:=trivial
theorem PySem.W.Fast.tw4181015652089841157:True:=trivial
theorem PySem.W.Fast.tw8285579365063174089:True:=trivial
open PySem PySem.W PyProof.Rows
set_option maxRecDepth 100000 in
set_option maxHeartbeats 0 in
theorem PySem.Challenge.cw_ledpast_k16_whole_let_by_same_tellings_holds : PySem.Challenge.rw_ledpast_k16_whole_let_by_same_tellings.Holds := by
 w_on; o_law; k_head; (case hw => w_witness2)
 k_fill
 refine My.walk (l := PySem.Challenge.rw_ledpast_k16_whole_let_by_same_tellings) rfl rfl (fun w h Y => PySem.W.kIn_of Y) ?F
 case F =>
  intro w mg fa h KX G hmg
  refine' My.all_mk KX G hmg ?z_len ?z_zip ?z_tuple ?z_sorted ?z_set ?z_dict ?z_min ?z_max ?z_range ?z_list ?z_int ?z_all ?gA ?lA ?g_MOST_TO_LEAD ?gE ?lE ?qE0 ?qE1 ?qE2 ?qE3 ?gD ?lD ?qD0 ?qD1 ?qD2 ?qD3 ?qD4 ?aCC ?pgC ?hdC ?poC ?saC ?mkC ?kcC ?nC_members ?nC_places (L2.def_mk ?a0 ?l0 ?c0 ?k0) (L2.def_mk ?a1 ?l1 ?c1 ?k1) (L2.def_mk ?a2 ?l2 ?c2 ?k2) (L2.def_mk ?a3 ?l3 ?c3 ?k3) (L2.def_mk ?a4 ?l4 ?c4 ?k4) (L2.def_mk ?a5 ?l5 ?c5 ?k5) (L2.def_mk ?a6 ?l6 ?c6 ?k6) (L2.def_mk ?a7 ?l7 ?c7 ?k7) (L2.def_mk ?a8 ?l8 ?c8 ?k8) (L2.def_mk ?a9 ?l9 ?c9 ?k9) (L2.def_mk ?a10 ?l10 ?c10 ?k10) (L2.def_mk ?a11 ?l11 ?c11 ?k11) (L2.def_mk ?a12 ?l12 ?c12 ?k12) (L2.def_mk ?a13 ?l13 ?c13 ?k13) (L2.def_mk ?a14 ?l14 ?c14 ?k14) (L2.def_mk ?a15 ?l15 ?c15 ?k15) (L2.def_mk ?a16 ?l16 ?c16 ?k16) (L2.def_mk ?a17 ?l17 ?c17 ?k17) (L2.def_mk ?a18 ?l18 ?c18 ?k18) (L2.def_mk ?a19 ?l19 ?c19 ?k19) (L2.def_mk ?a20 ?l20 ?c20 ?k20) (L2.def_mk ?a21 ?l21 ?c21 ?k21) (L2.met_mk ?a22 ?i22 ?l22 ?c22 ?k22) (L2.met_mk ?a23 ?i23 ?l23 ?c23 ?k23) (L2.def_mk ?a24 ?l24 ?c24 ?k24) (L2.def_mk ?a25 ?l25 ?c25 ?k25) (L2.def_mk ?a26 ?l26 ?c26 ?k26) (L2.def_mk ?a27 ?l27 ?c27 ?k27) (L2.def_mk ?a28 ?l28 ?c28 ?k28) (L2.def_mk ?a29 ?l29 ?c29 ?k29) (L2.def_mk ?a30 ?l30 ?c30 ?k30) (L2.def_mk ?a31 ?l31 ?c31 ?k31) (L2.def_mk ?a32 ?l32 ?c32 ?k32) (L2.def_mk ?a33 ?l33 ?c33 ?k33) (L2.def_mk ?a34 ?l34 ?c34 ?k34) (L2.def_mk ?a35 ?l35 ?c35 ?k35) (L2.def_mk ?a36 ?l36 ?c36 ?k36) (L2.def_mk ?a37 ?l37 ?c37 ?k37) (L2.def_mk ?a38 ?l38 ?c38 ?k38) (L2.def_mk ?a39 ?l39 ?c39 ?k39) (L2.def_mk ?a40 ?l40 ?c40 ?k40) (L2.def_mk ?a41 ?l41 ?c41 ?k41) (L2.def_mk ?a42 ?l42 ?c42 ?k42) (L2.def_mk ?a43 ?l43 ?c43 ?k43) (L2.def_mk ?a44 ?l44 ?c44 ?k44) (L2.def_mk ?a45 ?l45 ?c45 ?k45) (L2.def_mk ?a46 ?l46 ?c46 ?k46) (L2.def_mk ?a47 ?l47 ?c47 ?k47) (L2.def_mk ?a48 ?l48 ?c48 ?k48) (L2.def_mk ?a49 ?l49 ?c49 ?k49) (L2.def_mk ?a50 ?l50 ?c50 ?k50) (L2.def_mk ?a51 ?l51 ?c51 ?k51) (L2.def_mk ?a52 ?l52 ?c52 ?k52) (L2.def_mk ?a53 ?l53 ?c53 ?k53)
  case gA | lA | g_MOST_TO_LEAD | gE | lE | qE0 | qE1 | qE2 | qE3 | gD | lD | qD0 | qD1 | qD2 | qD3 | qD4 | aCC | pgC | hdC | poC | saC | mkC | kcC | nC_members | nC_places | a0 | l0 | c0 | k0 | a1 | l1 | c1 | k1 | a2 | l2 | c2 | k2 | a3 | l3 | c3 | k3 | a4 | l4 | c4 | k4 | a5 | l5 | c5 | k5 | a6 | l6 | c6 | k6 | a7 | l7 | c7 | k7 | a8 | l8 | c8 | k8 | a9 | l9 | c9 | k9 | a10 | l10 | c10 | k10 | a11 | l11 | c11 | k11 | a12 | l12 | c12 | k12 | a13 | l13 | c13 | k13 | a14 | l14 | c14 | k14 | a15 | l15 | c15 | k15 | a16 | l16 | c16 | k16 | a17 | l17 | c17 | k17 | a18 | l18 | c18 | k18 | a19 | l19 | c19 | k19 | a20 | l20 | c20 | k20 | a21 | l21 | c21 | k21 | a22 | i22 | l22 | c22 | k22 | a23 | i23 | l23 | c23 | k23 | a24 | l24 | c24 | k24 | a25 | l25 | c25 | k25 | a26 | l26 | c26 | k26 | a27 | l27 | c27 | k27 | a28 | l28 | c28 | k28 | a29 | l29 | c29 | k29 | a30 | l30 | c30 | k30 | a31 | l31 | c31 | k31 | a32 | l32 | c32 | k32 | a33 | l33 | c33 | k33 | a34 | l34 | c34 | k34 | a35 | l35 | c35 | k35 | a36 | l36 | c36 | k36 | a37 | l37 | c37 | k37 | a38 | l38 | c38 | k38 | a39 | l39 | c39 | k39 | a40 | l40 | c40 | k40 | a41 | l41 | c41 | k41 | a42 | l42 | c42 | k42 | a43 | l43 | c43 | k43 | a44 | l44 | c44 | k44 | a45 | l45 | c45 | k45 | a46 | l46 | c46 | k46 | a47 | l47 | c47 | k47 | a48 | l48 | c48 | k48 | a49 | l49 | c49 | k49 | a50 | l50 | c50 | k50 | a51 | l51 | c51 | k51 | a52 | l52 | c52 | k52 | a53 | l53 | c53 | k53 | z_len | z_zip | z_tuple | z_sorted | z_set | z_dict | z_min | z_max | z_range | z_list | z_int | z_all => k_is
