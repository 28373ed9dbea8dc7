import PyProof.Rows.All
import Wide.All
import OpenK.AllK
import Wide.FinOn
import Lean
import PyProof.EqAt
import PyProof.EqKinds
import PyProof.TupleCall
import PyProof.NeData
import Wide.Seal
import Wide.OfPy
import KE.KSetDisp
import PyProof.DictCompW
import PyProof.EnumMake
import PyProof.Draws
import PyProof.ListMulRoad
import PyProof.TupleOfStr
import PyProof.ListRange
import PySem.Challenge.RW_ledpast_k15_papers_by_hand
local macro_rules|`(tactic|exists $e,*)=>`(tactic|refine ⟨$e,*, ?_⟩)
local macro_rules|`(tactic|decide)=>`(tactic|decide +kernel)
local macro_rules|`(⋯)=>`(by first|omega|decide)
open Or renaming inl→Hj
open List renaming length_map→Hk
open PySem.W renaming Frag→Hl
open List renaming mem_singleton→Hm
open Nat renaming le_refl→Hn
open List renaming mem_cons→Ho
open PySem.Heap renaming lt_size→Hq
open PySem.Heap renaming get?_push_of_some→Hr
open PySem.Heap renaming get?_push_size→Hs
open List renaming length_append→Ht
open Nat renaming le_trans→Hu
open List renaming mem_cons_self→Hv
open Nat renaming ne_of_lt→Hw
open List renaming mem_cons_of_mem→Hx
open List renaming mem_of_getElem?→Hy
open Or renaming inr→Hz
open List renaming map_append→HA
open Option renaming some→HB
open List renaming getElem?_map→HC
open List renaming getElem?_eq_some_iff→HD
open List renaming mem_map→HE
open List renaming size_toArray→HF
open Nat renaming lt_irrefl→HG
open List renaming mem_append→HI
open PySem.Heap renaming size_push→HJ
open Bool renaming false_ne_true→HK
open Nat renaming zero_le→HL
open List renaming take_add_one→HM
open List renaming map_cons→HN
open List renaming length_take→HP
open Nat renaming lt_of_lt_of_le→HQ
open PySem.Heap renaming SameBut→HR
open List renaming mem_append_right→HS
open Bool renaming and_eq_true→HU
open PySem.W renaming nsIn→HV
open List renaming take_length→HW
open List renaming length_cons→HX
open List renaming range→HY
open Nat renaming le_of_lt→HZ
open PySem.W renaming fnOf→Ia
open PySem.W renaming findIn→Ic
open List renaming not_mem_nil→Ie
open List renaming mem_append_left→Ig
open Array renaming length_toList→Ih
open Nat renaming le_add_right→Ii
open PySem.W renaming mg_none_of→Ij
open List renaming getElem_mem→Ik
open Nat renaming lt_succ_of_lt→Il
open List renaming lookup→Im
open PySem.W renaming kia_one→Io
open Nat renaming le_succ→Ip
open List renaming append_assoc→Iq
open List renaming all_eq_true→Ir
open List renaming mem_filter→Iu
open Nat renaming ne_of_gt→Iv
open PySem.W renaming keepIn→Iw
open Nat renaming lt_succ_self→Iy
open List renaming length→Iz
open PySem.Heap renaming get?_update_self→IA
open Bool renaming false_eq_true→IB
open PySem.W renaming emptyDict→IC
open List renaming nodup_cons→ID
open PySem.Heap renaming get?_update_other→IE
open List renaming Pairwise→IF
open List renaming forIn_cons→IG
open List renaming lookup_cons→IH
open List renaming length_filter_le→II
open PySem.Around renaming under_plainId→IJ
open PySem.W renaming instObj→IK
open List renaming getElem?_append_left→IL
open Int renaming toNat_natCast→IM
open List renaming length_set→IP
open List renaming mem_range→IQ
open List renaming mem_filterMap→IS
open PySem.W renaming codeIn→IT
open List renaming map_map→IU
open List renaming nodup_append→IV
open PySem.W renaming mg_of→IW
open List renaming append_nil→IX
open List renaming length_drop→IY
open List renaming forIn_nil→IZ
open List renaming foldl_cons→I0
open List renaming find?_cons→Ja
open Nat renaming not_lt_zero→Jc
open List renaming nodup_nil→Jd
open List renaming getElem?_eq_none→Je
open Int renaming toNat→Jf
open List renaming filterMap_cons→Jg
open Bool renaming eq_iff_iff→Jh
open PySem.W renaming plainGet→Ji
open PySem.W renaming isFn→Jj
open List renaming getElem?_append_right→Jk
open List renaming any_cons→Jl
open Bool renaming and_false→Jm
open Array renaming getElem?_toList→Jn
open Nat renaming lt_of_le_of_lt→Jo
open PySem.Heap renaming IsTuple→Jp
open PySem.Shared renaming heap→Jq
open List renaming take_of_length_le→Jr
open List renaming length_range→Js
open Nat renaming le_of_succ_le→Jt
open Bool renaming true_and→Ju
open List renaming filter_cons_of_neg→Jv
open List renaming getElem?_of_mem→Jw
open List renaming mem_of_mem_take→Jx
open List renaming mem_or_eq_of_mem_set→Jy
open Bool renaming false_and→Jz
open PySem.W renaming lookIn→JA
open PySem.W renaming hasDictIn→JB
open PySem.W renaming makesIn→JC
open List renaming of_mem_zip→JD
open List renaming replicate→JE
open List renaming length_replicate→JF
open List renaming zipIdx_cons→JG
open List renaming zipIdx_nil→JH
open Option renaming map_some→JI
open List renaming length_nil→JJ
open List renaming filter_cons→JK
open Nat renaming lt_trans→JL
open List renaming map_congr_left→JM
open List renaming filter_append→JN
open Nat renaming min_le_left→JO
open Nat renaming not_succ_le_self→JP
open List renaming foldl_append→JQ
open List renaming pairwise_cons→JR
open Bool renaming eq_false_iff→JS
open List renaming filter_cons_of_pos→JT
open PySem.W renaming kdsCode→JU
open Option renaming toList_some→JV
open Nat renaming le_succ_of_le→JW
open Int renaming zero_add→JX
open PySem.W renaming methodObj→JY
open PySem.W renaming plainGet_of→JZ
open PySem.W renaming plainOver→J0
open PySem.W renaming callWith_K→J1
open PySem.Heap renaming get?_push_cases→J2
open List renaming getElem?_eq_getElem→J3
open List renaming find?_cons_of_pos→J4
open List renaming find?_cons_of_neg→J5
open List renaming length_eq_one_iff→J6
open PySem renaming wpAny_bind→J7
open PySem renaming wpAny_pure→J8
open PySem renaming wpAny_mono→J9
open PySem renaming wpAny_field→Ka
open PySem renaming wpAny_holding→Kb
open PySem renaming wpAny_call_entry→Kc
open PySem renaming wpAny_seqItems→Kd
open PySem renaming wpAny_newObj_type→Ke
open PySem renaming wpAny_rule→Kf
open PySem renaming wpAny_setField_rec→Kg
open PySem renaming codeAny_builtin→Kh
open PySem renaming wpAny_attempt→Ki
open PySem renaming wpAny_truthy_bool→Kj
open PySem renaming codeAny_mono→Kk
open PySem renaming wpAny_setField→Kl
open PySem renaming wpAny_onRaise→Km
open PySem renaming wpAny_passesOwn→Kn
open PySem renaming wpAny_pyIter_tuple→Ko
open PySem renaming wpAny_typeOf→Kp
open PySem renaming wpAny_letGo→Kq
open PySem renaming wpAny_standAt→Kr
open PySem renaming wpAny_isInstance→Ks
open PySem renaming wpAny_pyIter_zip→Kt
open PySem renaming wpAny_setState_of→Ku
open PySem renaming wpAny_Call_Name_kw→Kv
open PySem renaming wpAny_setEntries_of→Kw
open PySem renaming wpAny_alloc→Kx
open PySem renaming wpAny_execs_nil→Ky
open PySem renaming wpAny_askSetting→Kz
open PySem renaming wpAny_ite_split→KA
open PySem renaming wpAny_fieldsOf→KC
open PySem renaming wpAny_pyHash_str→KD
open PySem renaming wpAny_pyIter_list→KG
open PySem renaming wpAny_sequenceKey→KH
open PySem renaming wpAny_updateSeq_pair→KI
open PySem renaming wpAny_letOwnedTupleGo_zip→KJ
open PySem renaming wpAny_setEpoch_of→KL
open PySem renaming wpAny_comprehension_free→KN
set_option maxHeartbeats 8000000
set_option Elab.async false
set_option linter.all false
set_option maxRecDepth 100000
open PySem in abbrev AT:=Value->Shared->Prop
open PySem in abbrev BT:=List (Addr×Obj)
open PySem in abbrev Ch:=Str->Option Value
open PySem in abbrev Cl:=Array (Option Value)
namespace L2
open PySem PySem.Spec PyProof.Rows
abbrev Key:=Sum Int Str
def iI:Key->Value->Bool
 | .inl k,v=>Value.isInt k v
 | .inr x,v=>Value.isStrOf x v
def Gf (w:World):Key->Int
 | .inl k=>hashInt k
 | .inr x=>hashStr w x
theorem de:∀{k:Key} {v:Value},iI k v=true->(∃i t,k=Sum.inl i/\v=Value.int i t)\/(∃x t,k=Sum.inr x/\v=Value.str x t)
 | .inl i,v,h=>by
  obtain⟨t,e⟩:=Value.isInt_shape (k:=i) (v:=v) h;exact .inl ⟨i,t,rfl,e⟩
 | .inr x,v,h=>by
  obtain⟨t,e⟩:=Value.isStrOf_shape (x:=x) (v:=v) h;exact .inr ⟨x,t,rfl,e⟩
theorem yS (i:Int)(t:Tok):iI (.inl i) (.int i t)=true:=by simp[iI,Value.isInt]
theorem yT (x:Str)(t:Tok):iI (.inr x) (.str x t)=true:=by simp[iI,Value.isStrOf]
theorem DZ (a b:Int):decide ((Sum.inl a:Key)=Sum.inl b)=(a == b):=by
 by_cases e:a=b
 ·subst e;simp
 ·have h:¬(Sum.inl a:Key)=Sum.inl b:=λ q=>e (Sum.inl.inj q)
  rw[decide_eq_false h];exact (beq_eq_false_iff_ne.mpr e).symm
theorem Ea (a b:Str):decide ((Sum.inr a:Key)=Sum.inr b)=decide (a=b):=by
 by_cases e:a=b
 ·subst e;simp
 ·have h:¬(Sum.inr a:Key)=Sum.inr b:=λ q=>e (Sum.inr.inj q)
  rw[decide_eq_false h,decide_eq_false e]
theorem Eb (a:Int)(b:Str):decide ((Sum.inl a:Key)=Sum.inr b)=false:=decide_eq_false (λ q=>nomatch q)
theorem Ec (a:Str)(b:Int):decide ((Sum.inr a:Key)=Sum.inl b)=false:=decide_eq_false (λ q=>nomatch q)
def ba (prog:Program)(w:World):PySem.KeyKind prog w Key where
 is:=iI
 hash:=Gf w
 inj:=λ v a b ha hb=>by
  rcases de ha with ⟨i,t,rfl,rfl⟩ | ⟨x,t,rfl,rfl⟩
  ·rcases de hb with ⟨j,u,rfl,e⟩ | ⟨y,u,rfl,e⟩
   ·injection e with e1 _;rw[e1]
   ·exact nomatch e
  ·rcases de hb with ⟨j,u,rfl,e⟩ | ⟨y,u,rfl,e⟩
   ·exact nomatch e
   ·injection e with e1 _;rw[e1]
 byValue:=λ k v h=>by
  rcases de h with ⟨i,t,rfl,rfl⟩ | ⟨x,t,rfl,rfl⟩<;>rfl
 pyHash:=λ hv h=>by
  rcases de hv with ⟨i,t,rfl,rfl⟩ | ⟨x,t,rfl,rfl⟩
  ·exact wpAny_pyHash_int h
  ·exact KD h
 eqBool:=λ hu hv h=>by
  rcases de hu with ⟨i,t,rfl,rfl⟩ | ⟨x,t,rfl,rfl⟩
  ·rcases de hv with ⟨j,u,rfl,rfl⟩ | ⟨y,u,rfl,rfl⟩
   ·rw[DZ] at h;exact wpAny_eqBool_int h
   ·rw[Eb] at h;exact SeqAt.EqAt.int_str i t y u _ _ _ _ h
  ·rcases de hv with ⟨j,u,rfl,rfl⟩ | ⟨y,u,rfl,rfl⟩
   ·rw[Ec] at h;exact SeqAt.EqAt.str_int x t j u _ _ _ _ h
   ·rw[Ea] at h;exact wpAny_eqBool_str h
 «strs»:=λ k x t v h=>by
  rcases de h with ⟨i,u,rfl,e⟩ | ⟨y,u,rfl,e⟩
  ·exact nomatch e
  ·injection e with e1 _
   subst e1
   cases v<;>rfl
theorem nZ (prog:Program)(w:World)(i:Int)(t:Tok):(ba prog w).is (.inl i) (.int i t)=true:=yS i t
theorem n5 (prog:Program)(w:World)(x:Str)(t:Tok):(ba prog w).is (.inr x) (.str x t)=true:=yT x t
inductive V where
 | aZ | bl (b:Bool) | int (i:Int) | str (x:Str) | jg (b:Array UInt8) | sd (b:UInt64) | ref (a:Addr) | ty (n:String)
 deriving DecidableEq
def RelV:V->Value->Prop
 | .aZ,u=>u=Value.none
 | .bl b,u=>u=Value.bool b
 | .int i,u=>∃t,u=Value.int i t
 | .str x,u=>∃t,u=Value.str x t
 | .jg b,u=>∃t,u=Value.bytes b t
 | .sd b,u=>∃t,u=Value.float b t
 | .ref a,u=>u=Value.ref a
 | .ty n,u=>u=Value.type n
abbrev Vals:List V->List Value->Prop:=Paired RelV
theorem Vals.length {xs:List V}{us:List Value}(r:Vals xs us):xs.length=us.length:=Paired.length r
theorem Vals.get:∀{xs:List V} {us:List Value} {i:Nat} {x:V},Vals xs us->xs[i]?=some x->∃u,us[i]?=some u/\RelV x u
 | _,_,_,_,.nil,e=>by simp at e
 | _,_,0,_,.cons r _,e=>by simp at e;subst e;exact⟨_,rfl,r⟩
 | _,_,i+1,x,.cons _ t,e=>by
  obtain⟨u,h1,h2⟩:=Vals.get (i:=i) (x:=x) t (by simpa using e);exact⟨u,by simpa using h1,h2⟩
theorem Vals.set {x:V}{u:Value}(r:RelV x u):∀{xs:List V} {us:List Value} (i:Nat),Vals xs us->Vals (xs.set i x) (us.set i u)
 | _,_,_,.nil=>.nil
 | _,_,0,.cons _ t=>.cons r t
 | _,_,i+1,.cons q t=>.cons q (Vals.set r i t)
theorem Vals.append:∀{xs ys:List V} {us ws:List Value},Vals xs us->Vals ys ws->Vals (xs++ys) (us++ws)
 | _,_,_,_,.nil,s=>s
 | _,_,_,_,.cons r t,s=>.cons r (Vals.append t s)
theorem Vals.take:∀{xs:List V} {us:List Value} (n:Nat),Vals xs us->Vals (xs.take n) (us.take n)
 | _,_,0,_=>.nil
 | _,_,_+1,.nil=>.nil
 | _,_,n+1,.cons r t=>.cons r (Vals.take n t)
theorem Vals.drop:∀{xs:List V} {us:List Value} (n:Nat),Vals xs us->Vals (xs.drop n) (us.drop n)
 | _,_,0,r=>r
 | _,_,_+1,.nil=>.nil
 | _,_,n+1,.cons _ t=>Vals.drop n t
def fq:Option V->Option Value->Prop
 | some v,some u=>RelV v u
 | none,none=>True
 | _,_=>False
def KV {κ : Type}:List (κ×V)->List (κ×Value)->Prop:=Paired λ (p:κ×V) (q:κ×Value)=>p.1=q.1/\RelV p.2 q.2
def kV:Key->V
 | .inl i=>.int i
 | .inr x=>.str x
inductive HO where
 | lst (xs:List V)
 | tup (xs:List V)
 | dK (kvs:List (Key×V)) | dT (kvs:List (List Key×V))
 | set (S:Int->Bool) (n:Nat)
 | ins (C dx:Addr) (fs:List (Str×V))
 | own (x:Addr)
 | xd (fs:List (Str×V))
 | met (f x:Addr)
 | Ed (lo hi:Int)
 | eC (o:Obj) (u:HO)
 | mw (ps:Array Value)
 | ext (φ : Heap->Prop)
abbrev Hp:=Addr->Option HO
def upd (H:Hp)(a:Addr)(o:HO):Hp:=λ b=>if b=a then some o else H b
theorem af {H:Hp}{a:Addr}{o:HO}:upd H a o a=some o:=by unfold upd;rw[if_pos rfl]
theorem av {H:Hp}{a b:Addr}{o:HO}(h:b≠a):upd H a o b=H b:=by unfold upd;rw[if_neg h]
theorem CY {H:Hp}{a:Addr}{o u:HO}:upd (upd H a o) a u=upd H a u:=by
 funext b;unfold upd;split<;>rfl
theorem bP {H:Hp}{a b:Addr}{o u:HO}(h:H a=some o)(h':H b=some u)(d:o≠u):a≠b:=by
 intro e;subst e;rw[h] at h';exact d (HB.inj h')
theorem aQ {H:Hp}{a b:Addr}{o:HO}(h:H a=some o)(h':H b=none):a≠b:=by
 intro e;subst e;rw[h] at h';cases h'
section
variable (P:Program)(w:World)
def b0 (H:Hp)(h:Heap)(a:Addr):HO->Prop
 | .lst xs=>xs.length<=sizeLine/\∃(its:List Value) (n:Nat),Vals xs its/\h.get? a=some { cls:=.type "list",data:=.seq its.toArray n }
 | .tup xs=>xs.length<=sizeLine/\∃its:List Value,Vals xs its/\∃o,h.get? a=some o/\o.cls=.type "tuple" /\ ∃n,o.data=.seq its.toArray n/\o.dict=none
 | .dK kvs=>kvs.length<=sizeLine/\(a == sysModules)=false/\∃vs,KV kvs vs/\h.DictOf (ba P w) a vs
 | .dT kvs=>kvs.length<=sizeLine/\(a == sysModules)=false/\∃xs:List (List Key×Addr×Value),
   Paired (λ (p:List Key×V) (q:List Key×Addr×Value)=>p.1=q.1/\H q.2.1=some (.tup (p.1.map kV))/\RelV p.2 q.2.2) kvs xs /\
   ∃o es ep,h.get? a=some o/\o.ExactDict/\o.data=.dict es ep/\es.toList=xs.map (entryOfKey (tupleKind (ba P w)))/\(xs.map (·.1)).Nodup
 | .set S n=>h.SetOf (intKind P w) a S n
 | .ins C dx fs=>H dx=some (.own a)/\fs.length<=1000/\dx≠a/\h.get? a=some (IK C dx) /\
   ∃mA,h.Ns1 dx mA/\(∀f,fq (fs.lookup f) (mA f))/\PySem.Within mA (fs.map (·.1))
 | .own _=>∃o,h.get? a=some o
 | .xd fs=>∃mA,h.Ns1 a mA/\∀f,fq (fs.lookup f) (mA f)
 | .Ed lo hi=>∃t u v,h.get? a=some { cls:=.type "range",data:=.fields #[.int lo t,.int hi u,.int 1 v] }
 | .eC o u=>h.get? a=some o/\b0 H h a u
 | .mw ps=>h.get? a=some { cls:=.none,data:=.fields ps }
 | .met f x=>h.get? a=some (JY (.ref f) (.ref x))
 | .ext φ=>φ h/\(∃o,h.get? a=some o)/\∀h1 h2:Heap,φ h1->(∀o,h1.get? a=some o->h2.get? a=some o)->φ h2
def eS (H:Hp)(h:Heap):Prop:=∀a o,H a=some o->b0 P w H h a o
end
section
variable {P:Program}{w:World}{H H':Hp}{h h':Heap}{a:Addr}{o:HO}
theorem b0.lt (x:b0 P w H h a o):a<h.objs.size:=by
 cases o with
 | lst xs=>obtain⟨_,_,_,_,e⟩:=x;exact Hq e
 | tup xs=>obtain⟨_,_,_,p⟩:=x;exact (let ⟨o,e,_⟩:=p;Hq e)
 | dK kvs=>obtain⟨_,_,_,_,o,_,_,e,_⟩:=x;exact Hq e
 | dT kvs=>obtain⟨_,_,_,_,o,_,_,e,_⟩:=x;exact Hq e
 | set S n=>obtain⟨o,_,_,_,e,_⟩:=x;exact Hq e
 | ins C dx fs=>obtain⟨_,_,_,e,_⟩:=x;exact Hq e
 | own y=>obtain⟨_,e⟩:=x;exact Hq e
 | xd fs=>obtain⟨_,⟨_,_,_,e,_⟩,_⟩:=x;exact Hq e
 | Ed lo hi=>obtain⟨_,_,_,e⟩:=x;exact Hq e
 | eC ob u=>obtain⟨e,_⟩:=x;exact Hq e
 | mw ps=>exact Hq (show h.get? a=some _ from x)
 | met f y=>exact Hq (show h.get? a=some _ from x)
 | ext φ=>obtain⟨_,⟨_,e⟩,_⟩:=x;exact Hq e
theorem Paired.Au {α β : Type}{F G:α->β->Prop}:∀{l₁ : List α} {l₂ : List β},Paired F l₁ l₂->(∀a b,F a b->G a b)->Paired G l₁ l₂
 | _,_,.nil,_=>.nil
 | _,_,.cons r t,f=>.cons (f _ _ r) (Paired.Au t f)
theorem b0.oQ (x:b0 P w H h a o)(k:∀b u,(b=a\/H b=some (.own a))->h.get? b=some u->h'.get? b=some u)
  (ho:∀b,H b=some (.own a)->H' b=some (.own a)) (ht:∀b xs,H b=some (.tup xs)->H' b=some (.tup xs)):b0 P w H' h' a o:=by
 induction o with
 | lst xs=>obtain⟨z,its,n,r,e⟩:=x;exact⟨z,its,n,r,k _ _ (.inl rfl) e⟩
 | tup xs=>obtain⟨z,its,r,ob,e,c⟩:=x;exact⟨z,its,r,ob,k _ _ (.inl rfl) e,c⟩
 | dK kvs=>obtain⟨z,y,vs,r,ob,es,ep,e,c⟩:=x;exact⟨z,y,vs,r,ob,es,ep,k _ _ (.inl rfl) e,c⟩
 | dT kvs =>
  obtain⟨z,y,xs,r,ob,es,ep,e,c⟩:=x;exact⟨z,y,xs,Paired.Au r λ p q z=>⟨z.1,ht _ _ z.2.1,z.2.2⟩,ob,es,ep,k _ _ (.inl rfl) e,c⟩
 | set S n=>obtain⟨ob,es,ep,t,e,c⟩:=x;exact⟨ob,es,ep,t,k _ _ (.inl rfl) e,c⟩
 | ins C dx fs =>
  obtain⟨d,z,ne,e,mA,⟨od,es,ep,e2,c⟩,r⟩:=x;exact⟨ho _ d,z,ne,k _ _ (.inl rfl) e,mA,⟨od,es,ep,k _ _ (.inr d) e2,c⟩,r⟩
 | own y=>obtain⟨ob,e⟩:=x;exact⟨ob,k _ _ (.inl rfl) e⟩
 | xd fs=>obtain⟨mA,⟨od,es,ep,e,c⟩,r⟩:=x;exact⟨mA,⟨od,es,ep,k _ _ (.inl rfl) e,c⟩,r⟩
 | Ed lo hi=>obtain⟨t,u,v,e⟩:=x;exact⟨t,u,v,k _ _ (.inl rfl) e⟩
 | eC ob u ih=>obtain⟨e,q⟩:=x;exact⟨k _ _ (.inl rfl) e,ih q⟩
 | mw ps =>
  have e:h.get? a=some { cls:=.none,data:=.fields ps }:=x;show h'.get? a=some { cls:=.none,data:=.fields ps };exact k a _ (.inl rfl) e
 | met f y =>
  have e:h.get? a=some (JY (.ref f) (.ref y)):=x;show h'.get? a=some (JY (.ref f) (.ref y));exact k a _ (.inl rfl) e
 | ext φ=>obtain⟨p,⟨o,e⟩,st⟩:=x;exact⟨st _ _ p λ o q=>k _ _ (.inl rfl) q,⟨o,k _ _ (.inl rfl) e⟩,st⟩
theorem eS.lt (x:eS P w H h)(e:H a=some o):a<h.objs.size:=(x a o e).lt
theorem eS.fresh (x:eS P w H h)(e:h.objs.size<=a):H a=none:=by
 cases q:H a with
 | none=>rfl
 | some u=>exact absurd (HQ (x.lt q) e) (HG _)
theorem eS.kept (x:eS P w H h)(k:∀b u,h.get? b=some u->h'.get? b=some u):eS P w H h':=λ a o e =>
 (x a o e).oQ (λ b u _ q=>k b u q) (λ _ q=>q) λ _ _ q=>q
theorem eS.laid (x:eS P w H h)(k:∀b u,h.get? b=some u->h'.get? b=some u)(hp:h.objs.size<=a)(new:b0 P w (upd H a o) h' a o):eS P w (upd H a o) h':=λ b u e=>by
 have hn:=x.fresh hp;by_cases hb:b=a
 ·subst hb;rw[af] at e;cases e;exact new
 ·rw[av hb] at e;exact (x b u e).oQ (λ c v _ q=>k c v q) (λ c q=>by rw[av (aQ q hn)];exact q) λ c xs q=>by rw[av (aQ q hn)];exact q
end
def Rd (H:Hp)(a:Addr)(u:HO):Prop:=H a=some u\/∃o,H a=some (.eC o u)
theorem Rd.ok {P:Program}{w:World}{H:Hp}{h:Heap}{a:Addr}{u:HO}(r:Rd H a u)(x:eS P w H h):b0 P w H h a u:=by
 rcases r with r | ⟨o,r⟩
 ·exact x a u r
 ·obtain⟨_,q⟩:=x a _ r;exact q
def yU:Option HO->Prop
 | some (.lst _)=>True
 | some (.dK _)=>True
 | some (.dT _)=>True
 | some (.set _ _)=>True
 | some (.ins _ _ _)=>True
 | some (.ext _)=>True
 | _=>False
section
variable {P:Program}{w:World}{H:Hp}{h h':Heap}{x e:Addr}{o':HO}
theorem eS.write (ok:eS P w H h)(mu:yU (H x))(he:e=x\/H e=some (.own x))(k:∀b u,b≠e->h.get? b=some u->h'.get? b=some u)(heo:∃u,h'.get? e=some u)
  (new:b0 P w (upd H x o') h' x o'):eS P w (upd H x o') h':=λ b u q=>by
 have nown:∀c y,H c=some (.own y)->c≠x:=λ c y r z=>by subst z;rw[r] at mu;exact mu
 have ntup:∀c xs,H c=some (.tup xs)->c≠x:=λ c xs r z=>by subst z;rw[r] at mu;exact mu
 by_cases hb:b=x
 ·subst hb;rw[af] at q;cases q;exact new
 ·rw[av hb] at q;by_cases hbe:b=e
  ·have q':H b=some (.own x):=by
    rcases he with z | z
    ·exact absurd (hbe.trans z) hb
    ·rw[hbe];exact z
   rw[q] at q';cases q';obtain⟨v,hv⟩:=heo;exact⟨v,by rw[hbe];exact hv⟩
  ·refine (ok b u q).oQ (λ c v hc r=>k c v ?_ r) (λ c r=>by rw[av (nown c b r)];exact r) λ c xs r=>by rw[av (ntup c xs r)];exact r
   rcases hc with rfl | hc
   ·exact hbe
   ·rintro rfl
    rcases he with z | z
    ·exact nown c b hc z
    ·rw[hc] at z;cases z;exact hb rfl
end
structure Un (fs ex:List Addr) (H H':Hp) (h h':Heap):Prop where
 keep:∀b o,h.get? b=some o->H b=none->b∉fs->b∉ex->h'.get? b=some o
 slot:∀b o,h.get? b=some o->H b=none->b∈fs->b∉ex->∃sl,h'.get? b=some { o with slots:=sl }
 free:∀b o,h.get? b=some o->H b=none->b∉ex->H' b=none
 there:∀b o,h.get? b=some o->b∉ex->∃o',h'.get? b=some o'
 aM:∀b xs,H b=some (.tup xs)->H' b=some (.tup xs)
 iW:∀b o u,H b=some (.eC o u)->H' b=some (.eC o u)
 jh:∀b ps,H b=some (.mw ps)->∃more,H' b=some (.mw (ps++more))
section
variable {fs fs' ex ex':List Addr}{H H1 H2:Hp}{h h1 h2 h':Heap}{a x e:Addr}{o:HO}
theorem Un.any (u:Un fs ex H H1 h h1){b:Addr}{ob:Obj}(q:h.get? b=some ob)(n:H b=none)(hx:b∉ex):∃sl,h1.get? b=some { ob with slots:=sl }:=by
 by_cases hb:b∈fs
 ·exact u.slot b ob q n hb hx
 ·exact⟨ob.slots,u.keep b ob q n hb hx⟩
theorem Un.kept (k:∀b u,h.get? b=some u->h'.get? b=some u):Un fs ex H H h h' :=
 ⟨λ b ob q _ _ _=>k b ob q,λ b ob q _ _ _=>⟨ob.slots,k b ob q⟩,λ _ _ _ n _=>n,λ b ob q _=>⟨ob,k b ob q⟩,λ _ _ q=>q,λ _ _ _ q=>q,λ _ ps q=>⟨#[],by rw[q];simp⟩⟩
theorem Un.refl:Un fs ex H H h h:=Un.kept λ _ _ q=>q
theorem Un.laid (k:∀b u,h.get? b=some u->h'.get? b=some u)(hp:h.objs.size<=a)(hn:H a=none):Un fs ex H (upd H a o) h h' where
 keep:=λ b u q _ _ _=>k b u q
 slot:=λ b u q _ _ _=>⟨u.slots,k b u q⟩
 free:=λ b u q n _=>by rw[av (Hw (HQ (Hq q) hp))];exact n
 there:=λ b u q _=>⟨u,k b u q⟩
 aM:=λ b xs q=>by rw[av (aQ q hn)];exact q
 iW:=λ b u xs q=>by rw[av (aQ q hn)];exact q
 jh:=λ b ps q=>⟨#[],by rw[av (aQ q hn),q];simp⟩
theorem Un.write (mu:yU (H x))(he:e=x\/H e=some (.own x))(k:∀b u,b≠e->h.get? b=some u->h'.get? b=some u)(heo:∃u,h'.get? e=some u):Un fs ex H (upd H x o) h h':=by
  have hx:∀b,H b=none->b≠x:=λ b n z=>by subst z;rw[n] at mu;exact mu
  have hb:∀b,H b=none->b≠e:=λ b n z=>by
    subst z
    rcases he with r | r
    . exact hx b n r
    . rw[n] at r;cases r
  have hm:∀b u,H b=some u->¬yU (some u)->b≠x:=λ b u q nm z=>by subst z;rw[q] at mu;exact nm mu
  refine⟨λ b u q n _ _=>k b u (hb b n) q,λ b u q n _ _=>⟨u.slots,k b u (hb b n) q⟩,λ b u q n _=>by rw[av (hx b n)];exact n,λ b u q _=>?_,
    λ b xs q=>by rw[av (hm b _ q λ z=>z)];exact q,λ b u xs q=>by rw[av (hm b _ q λ z=>z)];exact q,λ b ps q=>⟨#[],by rw[av (hm b _ q λ z=>z),q];simp⟩⟩
  by_cases hbe:b=e
  . subst hbe;exact heo
  . exact⟨u,k b u hbe q⟩
end
def Cu (h:Heap)(H:Hp):List Addr:=(HY h.objs.size).filter λ a=>(H a).isSome
def kP (h:Heap)(H:Hp):Heap:=PySem.W.hideAll h (Cu h H)
theorem yV (h:Heap)(H:Hp):(kP h H).objs.size=h.objs.size:=PySem.W.hideAll_size _ _
theorem Av {h:Heap}{H:Hp}{b:Addr}{o:Obj}(e:h.get? b=some o)(n:H b=none):(kP h H).get? b=some o :=
 PySem.W.hideAll_get _ e λ hm=>by
  have q:(H b).isSome=true:=(Iu.mp hm).2;rw[n] at q;simp at q
theorem CZ {h:Heap}{H:Hp}{b:Addr}{o:Obj}(e:(kP h H).get? b=some o):h.get? b=some o/\H b=none:=by
 have e':h.get? b=some o:=PySem.W.of_hideAll (Cu h H) e;exists e';cases q:H b with
 | none=>rfl
 | some x =>
  have hm:b∈Cu h H:=Iu.mpr ⟨IQ.mpr (Hq e'),by simp[q]⟩;have z:(kP h H).get? b=none:=PySem.W.hideAll_none (Cu h H) hm;rw[z] at e;cases e
def C0 (g h:Heap)(L:Addr):List (Addr×Obj):=(HY h.objs.size).filterMap λ a=>if a=L\/(g.get? a).isSome=true then none else (h.get? a).map λ o=>(a,o)
def rest (g h:Heap)(L d:Addr):List (Addr×Obj):=(C0 g h L).filter λ p=>decide (p.1≠d)
structure Mod (K:Hl) (mg:Ch) (base:Heap):Prop where
 kn:K.In base
 glob:base.Ns mainGlobals mg
 blt:∃mb,base.Ns builtinsNs mb/\∀x:Str,x ≠ "__name__" -> mb x=bootBuiltins x
 nolimit:base.NoLimit
structure Cx where
 prog:Program
 w:World
 K:Hl
 mg:Str->Option Value
 base:Heap
 A:Around
 N:List Str
 eQ:Shared
 kQ:Hp
 env:Env
 outer:List Env
 stack:List Env
 ex:List Addr
 fn:Str->Bool
 calm:Bool
 pn:List (Addr×Obj)
 xe:Value->Shared->Prop
def mx (l:List Env):List Addr:=l.filterMap (·.frame)
abbrev Cx.fs (X:Cx):List Addr:=mx X.outer
def Ee (sc:Scope)(x:Str):Prop:=sc.names.lookup x=some .local\/sc.names.lookup x=some .cell\/sc.names.lookup x=some .free
def Loc (sc:Scope)(x:Str):Prop:=sc.names.lookup x=some .local\/sc.names.lookup x=some .cell
def Look (env:Env)(h:Heap)(m:Ch)(x:Str)(u:Value):Prop :=
 (env.kindOf x=some .local/\m x=some u)\/((env.kindOf x=some .cell\/env.kindOf x=some .free)/\∃c,env.cells.lookup x=some c/\h.IsCell c (some u))
structure Cx.Ok (X:Cx):Prop where
 mod:Mod X.K X.mg X.base
 kind:X.env.scope.kind=.function
 glob:X.env.globals=mainGlobals
 blt:X.env.builtins=builtinsNs
 above:X.eQ.heap.objs.size<=X.env.locals
 inj:∀x y c,X.env.cells.lookup x=some c->X.env.cells.lookup y=some c->x=y
 has:∀x,(X.env.kindOf x=some .cell\/X.env.kindOf x=some .free)->∃c,X.env.cells.lookup x=some c
 yW:∀x c,X.fn x=true->X.env.cells.lookup x=some c->X.eQ.heap.objs.size<=c
 hd:X.calm=true->X.A.handled=none
 frames:X.A.frames=some X.stack
 Cv:X.stack=X.outer\/(X.stack=X.env::X.outer/\X.env.frame=some X.env.locals)
 FR:∀b∈X.ex,b≠X.env.locals/\∀x c,X.env.cells.lookup x=some c->c≠b
 bs:∀b o,X.base.get? b=some o->X.eQ.heap.get? b=some o/\X.kQ b=none
 pJ:X.base.objs.size<=X.eQ.heap.objs.size
 uz:∀b o,X.base.get? b=some o->b∉X.ex
 xJ:∀b∈X.ex,b∉X.fs
 iX:X.eQ.heap.FunFrames X.base X.outer
 uA:∀b∈X.fs,X.kQ b=none
structure Inv (X:Cx) (pins:BT) (Hh : List (Option V)) (H:Hp) (s:Shared):Prop where
 ok:X.Ok
 os:s.os=X.eQ.os
 bare:AllBare s.gens
 base:Un X.fs X.ex X.kQ H X.eQ.heap s.heap
 loc:∃m,s.heap.Ns X.env.locals m/\∀(i:Nat) (x:Str) (v:V),X.N[i]?=some x->Hh[i]?=some (some v)->Ee X.env.scope x->∃u,RelV v u/\Look X.env s.heap m x u
 cell:∀x c,X.env.cells.lookup x=some c->∃v,s.heap.IsCell c v
 free:H X.env.locals=none
 fD:∀x c,X.env.cells.lookup x=some c->H c=none
 pin:∀p∈X.pn++pins,s.heap.get? p.1=some p.2/\H p.1=none/\p.1≠X.env.locals/\p.1∉X.fs/\∀v,p.2.data≠.cell v
 bc:eS X.prog X.w H s.heap
 len:Hh.length=X.N.length
section
variable {X:Cx}{pins:BT}{Hh : List (Option V)}{H H':Hp}{s:Shared}{h':Heap}
theorem Cx.Ok.Gg (ok:X.Ok){b:Addr}{o:Obj}(e:X.base.get? b=some o):b∉X.fs:=λ hb=>by
 have:=(ok.iX.mem hb).1;rw[e] at this;cases this
theorem Inv.bs (I:Inv X pins Hh H s):∀b o,X.base.get? b=some o->s.heap.get? b=some o/\H b=none:=λ b o e =>
 ⟨I.base.keep b o (I.ok.bs b o e).1 (I.ok.bs b o e).2 (I.ok.Gg e) (I.ok.uz b o e),I.base.free b o (I.ok.bs b o e).1 (I.ok.bs b o e).2 (I.ok.uz b o e)⟩
theorem Inv.bk (I:Inv X pins Hh H s):∀b o,X.base.get? b=some o->s.heap.get? b=some o:=λ b o e=>(I.bs b o e).1
theorem Inv.mod (I:Inv X pins Hh H s):Mod X.K X.mg X.base:=I.ok.mod
theorem Inv.ft (I:Inv X pins Hh H s):X.K.In s.heap:=I.ok.mod.kn.keeps I.bk
theorem Inv.lt (I:Inv X pins Hh H s):X.env.locals<s.heap.objs.size:=let ⟨_,hn,_⟩:=I.loc;hn.lt
theorem Inv.sz (I:Inv X pins Hh H s):X.eQ.heap.objs.size<=s.heap.objs.size:=Hu I.ok.above (HZ I.lt)
theorem Inv.Gh (I:Inv X pins Hh H s){a:Addr}(h:s.heap.objs.size<=a):a∉X.fs:=λ hb=>by
 obtain⟨_,o,ho,_⟩:=I.ok.iX.mem hb;exact absurd (HQ (Hq ho) (Hu I.sz h)) (HG _)
theorem Inv.uB (I:Inv X pins Hh H s):∀x c,X.env.cells.lookup x=some c->c≠X.env.locals:=λ x c e z=>by
 obtain⟨v,o,ho,hd⟩:=I.cell x c e;obtain⟨m,⟨o',es,ep,ho',hd',_⟩,_⟩:=I.loc;rw[z,ho'] at ho;cases ho;rw[hd'] at hd;cases hd
theorem Inv.iX (I:Inv X pins Hh H s):s.heap.FunFrames X.base X.outer:=by
 have all:∀(l:List Env),(∀b∈mx l,b∈X.fs)->X.eQ.heap.FunFrames X.base l->s.heap.FunFrames X.base l:=by
  intro l
  induction l with
  | nil=>intro _ _;trivial
  | cons env r ih =>
   intro hs hl;obtain⟨hk,⟨L,o,hf,hn,ho,hd⟩,hr⟩:=hl;have hL:L∈X.fs:=hs L (by unfold mx;rw[Jg,hf];exact Hv);obtain⟨sl,e⟩:=I.base.slot L o ho (I.ok.uA L hL) hL λ z=>I.ok.xJ L z hL
   exact⟨hk,⟨L,_,hf,hn,e,hd⟩,ih (λ b hb=>hs b (by unfold mx;rw[Jg,hf];exact Hx _ hb)) hr⟩
 exact all X.outer (λ _ hb=>hb) I.ok.iX
theorem Inv.stack (I:Inv X pins Hh H s):s.heap.FunFrames X.base X.stack:=by
 rcases I.ok.Cv with e | ⟨e,hf⟩
 ·rw[e];exact I.iX
 ·rw[e];obtain⟨m,hn,_⟩:=I.loc;refine .cons (by rw[I.ok.kind];decide) hf hn ?_ I.iX;exact Heap.get?_none_of_le (Hu I.ok.pJ I.ok.above)
theorem Inv.pK (I:Inv X pins Hh H s):∀b∈mx X.stack,b∈X.env.locals::X.fs:=λ b hb=>by
 rcases I.ok.Cv with e | ⟨e,hf⟩
 ·rw[e] at hb;exact Hx _ hb
 ·rw[e] at hb;unfold mx at hb;rw[Jg,hf] at hb;exact hb
theorem Inv.wI (I:Inv X pins Hh H s):∀b∈mx X.stack,H b=none:=λ b hb=>by
 rcases Ho.mp (I.pK b hb) with e | hb
 ·rw[e];exact I.free
 ·obtain⟨_,o,ho,_⟩:=I.ok.iX.mem hb;exact I.base.free b o ho (I.ok.uA b hb) λ z=>I.ok.xJ b z hb
theorem Inv.step {g':Array GenState}{t':Nat}{d':Drawn}{ch:List Addr}(I:Inv X pins Hh H s)
  (hch:∀b∈ch,(b∈X.ex\/X.eQ.heap.objs.size<=b)/\b≠X.env.locals/\(∀x c,X.env.cells.lookup x=some c->c≠b)/\∀p∈X.pn++pins,p.1≠b)
  (keep:∀b o,b≠X.env.locals->b∉X.fs->b∉ch->s.heap.get? b=some o->H b=none->h'.get? b=some o)
  (slot:∀b o,b≠X.env.locals->b∈X.fs->b∉ch->s.heap.get? b=some o->H b=none->∃sl,h'.get? b=some { o with slots:=sl }) (free:∀b o,b∉ch->s.heap.get? b=some o->H b=none->H' b=none)
  (there:∀b o,b∉ch->s.heap.get? b=some o->∃o',h'.get? b=some o')
  (aM:∀b xs,H b=some (.tup xs)->H' b=some (.tup xs)) (iW:∀b o u,H b=some (.eC o u)->H' b=some (.eC o u)) (jh:∀b ps,H b=some (.mw ps)->∃more,H' b=some (.mw (ps++more)))
  (ns:∀m,s.heap.Ns X.env.locals m->h'.Ns X.env.locals m) (bc:eS X.prog X.w H' h') (hg:AllBare g') :
  Inv X pins Hh H' { s with heap:=h',gens:=g',drawn:=d',toks:=t' }:=by
 have neL:∀b o,X.eQ.heap.get? b=some o->b≠X.env.locals:=λ b o e=>Hw (HQ (Hq e) I.ok.above)
 have neC:∀b o,X.eQ.heap.get? b=some o->b∉X.ex->b∉ch:=λ b o e hx hb=>by
  rcases (hch b hb).1 with z | z
  ·exact hx z
  ·exact absurd (HQ (Hq e) z) (HG _)
 have cellK:∀x c,X.env.cells.lookup x=some c->∀v,s.heap.IsCell c v->h'.IsCell c v:=λ x c e v ⟨o,ho,hd⟩=>by
  have nch:c∉ch:=λ z=>(hch c z).2.2.1 x c e rfl
  by_cases hc:c∈X.fs
  ·obtain⟨sl,q⟩:=slot c o (I.uB x c e) hc nch ho (I.fD x c e);exact⟨_,q,hd⟩
  ·exact⟨o,keep c o (I.uB x c e) hc nch ho (I.fD x c e),hd⟩
 refine⟨I.ok,I.os,hg,⟨λ b o e n hb hx=>?_,λ b o e n hb hx=>?_,λ b o e n hx=>?_,λ b o e hx=>?_,λ b xs e=>aM b xs (I.base.aM b xs e),λ b o xs e=>iW b o xs (I.base.iW b o xs e),λ b ps e=>?_⟩,?_,λ x c e=>?_,?_,λ x c e=>?_,λ p hp=>?_,bc,I.len⟩
 ·exact keep b o (neL b o e) hb (neC b o e hx) (I.base.keep b o e n hb hx) (I.base.free b o e n hx)
 ·obtain⟨sl,e1⟩:=I.base.slot b o e n hb hx;obtain⟨sl',e2⟩:=slot b _ (neL b o e) hb (neC b o e hx) e1 (I.base.free b o e n hx);exact⟨sl',e2⟩
 ·obtain⟨o',e1⟩:=I.base.there b o e hx;exact free b o' (neC b o e hx) e1 (I.base.free b o e n hx)
 ·obtain⟨o',e1⟩:=I.base.there b o e hx;exact there b o' (neC b o e hx) e1
 ·obtain⟨m1,e1⟩:=I.base.jh b ps e;obtain⟨m2,e2⟩:=jh b _ e1;exact⟨m1++m2,by rw[e2,Array.append_assoc]⟩
 ·obtain⟨m,hn,hl⟩:=I.loc;refine⟨m,ns m hn,λ i x v e1 e2 e3=>?_⟩;obtain⟨u,r,l⟩:=hl i x v e1 e2 e3;exists u,r
  rcases l with l | ⟨k,c,e,z⟩
  ·exact .inl l
  ·exact .inr ⟨k,c,e,cellK x c e _ z⟩
 ·obtain⟨v,z⟩:=I.cell x c e;exact⟨v,cellK x c e v z⟩
 ·obtain⟨m,⟨o,_,_,ho,_⟩,_⟩:=I.loc;exact free _ o (λ z=>(hch _ z).2.1 rfl) ho I.free
 ·obtain⟨v,o,ho,hd⟩:=I.cell x c e;exact free c o (λ z=>(hch c z).2.2.1 x c e rfl) ho (I.fD x c e)
 ·obtain⟨e,n,ne,nf,d⟩:=I.pin p hp;have nch:p.1∉ch:=λ z=>(hch p.1 z).2.2.2 p hp rfl
  exact⟨keep p.1 p.2 ne nf nch e n,free p.1 p.2 nch e n,ne,nf,d⟩
theorem Inv.un {t':Nat}(I:Inv X pins Hh H s)(u:Un X.fs [] H H' s.heap h')(bc:eS X.prog X.w H' h'):Inv X pins Hh H' { s with heap:=h',toks:=t' }:=by
  obtain⟨m,⟨o,es,ep,ho,r⟩,_⟩:=id I.loc;obtain⟨sl,hL⟩:=u.any ho I.free (by simp);exact I.step (g':=s.gens) (d':=s.drawn) (ch:=[]) (λ _ z=>nomatch z) (λ b o _ hb _ e n=>u.keep b o e n hb (by simp)) (λ b o _ hb _ e n=>u.slot b o e n hb (by simp)) (λ b o _ e n=>u.free b o e n (by simp)) (λ b o _ e=>u.there b o e (by simp)) u.aM u.iW u.jh (λ m' hm=>by
    obtain⟨o',es',ep',ho',r'⟩:=hm;rw[ho] at ho';cases ho';exact⟨_,es',ep',hL,r'⟩) bc I.bare
theorem Inv.call {g':Array GenState}{t':Nat}{d':Drawn}{ch:List Addr}(I:Inv X pins Hh H s)(u:Un (mx X.stack) ch H H' s.heap h')(bc:eS X.prog X.w H' h')(hg:AllBare g')
  (hch:∀b∈ch,(b∈X.ex\/X.eQ.heap.objs.size<=b)/\b≠X.env.locals/\(∀x c,X.env.cells.lookup x=some c->c≠b)/\∀p∈X.pn++pins,p.1≠b) :
  Inv X pins Hh H' { s with heap:=h',gens:=g',drawn:=d',toks:=t' }:=by
 obtain⟨m,⟨o,es,ep,ho,r⟩,_⟩:=id I.loc;obtain⟨sl,hL⟩:=u.any ho I.free λ z=>(hch _ z).2.1 rfl
 exact I.step (ch:=ch) hch (λ b o hL hb hc e n=>u.keep b o e n (λ z=>(Ho.mp (I.pK b z)).elim hL hb) hc) (λ b o _ _ hc e n=>u.any e n hc) (λ b o hc e n=>u.free b o e n hc) (λ b o hc e=>u.there b o e hc) u.aM u.iW u.jh (λ m' hm=>by
  obtain⟨o',es',ep',ho',r'⟩:=hm;rw[ho] at ho';cases ho';exact⟨_,es',ep',hL,r'⟩) bc hg
theorem Inv.turned {t':Nat}{it:Addr}(I:Inv X pins Hh H s)(k:∀b o,b≠it->s.heap.get? b=some o->h'.get? b=some o)(hn:H it=none)(hL:it≠X.env.locals)
  (h1:it∈X.ex\/X.eQ.heap.objs.size<=it) (h2:∀x c,X.env.cells.lookup x=some c->c≠it) (h3:∀p∈X.pn++pins,p.1≠it):Inv X pins Hh H { s with heap:=h',toks:=t' }:=by
 have nit:∀b u,H b=some u->b≠it:=λ b u e z=>by rw[z,hn] at e;cases e
 refine I.step (g':=s.gens) (d':=s.drawn) (ch:=[it]) (λ b hb=>?_) (λ b o _ _ hc e _=>k b o (λ z=>hc (by simp[z])) e) (λ b o _ _ hc e _=>⟨o.slots,k b o (λ z=>hc (by simp[z])) e⟩) (λ _ _ _ _ n=>n)
  (λ b o hc e=>⟨o,k b o (λ z=>hc (by simp[z])) e⟩) (λ _ _ e=>e) (λ _ _ _ e=>e) (λ b ps e=>⟨#[],by rw[e];simp⟩) (λ m hm=>?_) (λ b u e=>?_) I.bare
 ·have e:b=it:=by simpa using hb
  subst e;exact⟨h1,hL,h2,h3⟩
 ·obtain⟨o,es,ep,ho,r⟩:=hm;exact⟨o,es,ep,k _ o (Ne.symm hL) ho,r⟩
 ·refine (I.bc b u e).oQ (λ c v hc q=>k c v ?_ q) (λ _ q=>q) λ _ _ q=>q
  rcases hc with z | z
  ·rw[z];exact nit b u e
  ·exact nit c _ z
theorem Inv.tok (I:Inv X pins Hh H s)(t:Nat):Inv X pins Hh H { s with toks:=t }:=I.un (h':=s.heap) (t':=t) Un.refl I.bc
theorem Inv.kept {t':Nat}(I:Inv X pins Hh H s)(k:∀b u,s.heap.get? b=some u->h'.get? b=some u):Inv X pins Hh H { s with heap:=h',toks:=t' }:=I.un (Un.kept k) (I.bc.kept k)
theorem Inv.laid {a:Addr}{o:HO}{t':Nat}(I:Inv X pins Hh H s)(k:∀b u,s.heap.get? b=some u->h'.get? b=some u)(hp:s.heap.objs.size<=a)(new:b0 X.prog X.w (upd H a o) h' a o) :
  Inv X pins Hh (upd H a o) { s with heap:=h',toks:=t' }:=I.un (Un.laid k hp (I.bc.fresh hp)) (I.bc.laid k hp new)
theorem Inv.write {x e:Addr}{o:HO}{t':Nat}(I:Inv X pins Hh H s)(mu:yU (H x))(he:e=x\/H e=some (.own x))(k:∀b u,b≠e->s.heap.get? b=some u->h'.get? b=some u)(heo:∃u,h'.get? e=some u)
  (new:b0 X.prog X.w (upd H x o) h' x o):Inv X pins Hh (upd H x o) { s with heap:=h',toks:=t' }:=I.un (Un.write mu he k heo) (I.bc.write mu he k heo new)
theorem Inv.wJ {pins':BT}(I:Inv X pins Hh H s)(h:∀p∈pins',s.heap.get? p.1=some p.2/\H p.1=none/\p.1≠X.env.locals/\p.1∉X.fs/\∀v,p.2.data≠.cell v):Inv X pins' Hh H s :=
 ⟨I.ok,I.os,I.bare,I.base,I.loc,I.cell,I.free,I.fD,λ p hp=>(HI.mp hp).elim (λ z=>I.pin p (Ig _ z)) (h p),I.bc,I.len⟩
theorem uC {N:List Str}(hN:N.Nodup){i j:Nat}{x:Str}(a:N[i]?=some x)(b:N[j]?=some x):i=j:=by
 obtain⟨h1,e1⟩:=HD.mp a;obtain⟨h2,e2⟩:=HD.mp b;exact (List.getElem_inj hN).mp (e1.trans e2.symm)
theorem se {M:Model}{A:Around}{E:AT}{i:Nat}{x:Str}{v:V}{u:Value}{Q:Unit->Shared->Prop}(I:Inv X pins Hh H s)(hN:X.N.Nodup)(hi:X.N[i]?=some x)(hx:Loc X.env.scope x)(r:RelV v u)
  (h:∀s',Inv X pins (Hh.set i (some v)) H s'->(∃a,HR a s.heap s'.heap/\(a=X.env.locals\/X.env.cells.lookup x=some a))->Q () s') (hf:X.fn x=true\/X.env.scope.names.lookup x=some .local:=by first | exact .inl rfl | exact .inr rfl | assumption):wpAny M A (storeName X.env x u) Q E s:=by
 obtain⟨m,hn,hl⟩:=id I.loc;have hcls:(X.env.scope.kind == .class||(X.env.scope.kind == .module&&X.env.locals != X.env.globals))=false:=by rw[I.ok.kind];rfl
 have hiσ : i<Hh.length:=by rw[I.len];exact (HD.mp hi).1
 have uB:=I.uB;have tracked:∀{a:Addr} {h':Heap},(∃o,s.heap.get? a=some o/\H a=none)->HR a s.heap h'->eS X.prog X.w H h':=λ {a h'} ha hs b ob e=>by
  obtain⟨_,_,hfree⟩:=ha;refine (I.bc b ob e).oQ (λ c w' hc q=>(hs.2 c ?_).trans q) (λ _ q=>q) λ _ _ q=>q
  rintro rfl
  rcases hc with rfl | hc
  ·rw[hfree] at e;cases e
  ·rw[hfree] at hc;cases hc
 rcases hx with hk | hk
 ·refine wpAny_storeName_local hk hn (λ h' hn' hs=>?_) hcls;obtain⟨oL,_,_,hoL,_⟩:=id hn;refine h _ ⟨I.ok,I.os,I.bare,⟨λ b o e n hb hx=>?_,λ b o e n hb hx=>?_,I.base.free,λ b o e hx=>?_,I.base.aM,I.base.iW,I.base.jh⟩,⟨_,hn',λ j y v' e1 e2 e3=>?_⟩,λ y c e=>?_,I.free,I.fD,λ p hp=>?_,tracked ⟨oL,hoL,I.free⟩ hs,by simpa using I.len⟩ ⟨_,hs,.inl rfl⟩
  ·exact (hs.2 b (Hw (HQ (Hq e) I.ok.above))).trans (I.base.keep b o e n hb hx)
  ·obtain⟨sl,e1⟩:=I.base.slot b o e n hb hx;exact⟨sl,(hs.2 b (Hw (HQ (Hq e) I.ok.above))).trans e1⟩
  ·obtain⟨o',e1⟩:=I.base.there b o e hx;exact⟨o',(hs.2 b (Hw (HQ (Hq e) I.ok.above))).trans e1⟩
  ·by_cases hj:j=i
   ·subst hj;rw[hi] at e1;cases e1;rw[List.getElem?_set_self hiσ] at e2;cases e2;exact⟨u,r,.inl ⟨hk,by simp⟩⟩
   ·rw[List.getElem?_set_ne (Ne.symm hj)] at e2;obtain⟨u',r',q⟩:=hl j y v' e1 e2 e3;exists u',r'
    rcases q with ⟨k,e⟩ | ⟨k,c,e,z⟩
    ·refine .inl ⟨k,?_⟩;have:y≠x:=λ e=>hj (uC hN e1 (e ▸ hi))
     simp[this,e]
    ·exact .inr ⟨k,c,e,z.sameBut hs (uB y c e)⟩
  ·obtain⟨w',z⟩:=I.cell y c e;exact⟨w',z.sameBut hs (uB y c e)⟩
  ·obtain⟨e,n,ne,nf,d⟩:=I.pin p hp;exact⟨(hs.2 p.1 ne).trans e,n,ne,nf,d⟩
 ·have hfn:X.fn x=true:=by
   rcases hf with z | z
   ·exact z
   ·rw[z] at hk;cases hk
  obtain⟨c,hc⟩:=I.ok.has x (.inl hk);obtain⟨w',z⟩:=I.cell x c hc;refine wpAny_storeName_cell I.ok.kind hk hc z (λ h' hc' hs=>?_);obtain⟨oc,hoc,hocd⟩:=id z;refine h { s with heap:=h' } ⟨I.ok,I.os,I.bare,⟨λ b o e n hb hx=>?_,λ b o e n hb hx=>?_,I.base.free,λ b o e hx=>?_,I.base.aM,I.base.iW,I.base.jh⟩,⟨m,hn.sameBut hs (Ne.symm (uB x c hc)),λ j y v' e1 e2 e3=>?_⟩,λ y c' e=>?_,I.free,I.fD,λ p hp=>?_,tracked ⟨oc,hoc,I.fD x c hc⟩ hs,by simpa using I.len⟩ ⟨c,hs,.inr hc⟩
  ·exact (hs.2 b (Hw (HQ (Hq e) (I.ok.yW x c hfn hc)))).trans (I.base.keep b o e n hb hx)
  ·obtain⟨sl,e1⟩:=I.base.slot b o e n hb hx;exact⟨sl,(hs.2 b (Hw (HQ (Hq e) (I.ok.yW x c hfn hc)))).trans e1⟩
  ·obtain⟨o',e1⟩:=I.base.there b o e hx;exact⟨o',(hs.2 b (Hw (HQ (Hq e) (I.ok.yW x c hfn hc)))).trans e1⟩
  ·by_cases hj:j=i
   ·subst hj;rw[hi] at e1;cases e1;rw[List.getElem?_set_self hiσ] at e2;cases e2;exact⟨u,r,.inr ⟨.inl hk,c,hc,hc'⟩⟩
   ·rw[List.getElem?_set_ne (Ne.symm hj)] at e2;obtain⟨u',r',q⟩:=hl j y v' e1 e2 e3;exists u',r'
    rcases q with q | ⟨k,c',e,z'⟩
    ·exact .inl q
    ·refine .inr ⟨k,c',e,z'.sameBut hs ?_⟩;rintro rfl;exact hj (uC hN e1 (I.ok.inj _ _ _ e hc ▸ hi))
  ·by_cases hcc:c' = c
   ·subst hcc;exact⟨_,hc'⟩
   ·obtain⟨w2,z2⟩:=I.cell y c' e;exact⟨w2,z2.sameBut hs hcc⟩
  ·obtain⟨e,n,ne,nf,d⟩:=I.pin p hp;refine⟨(hs.2 p.1 ?_).trans e,n,ne,nf,d⟩;intro q;rw[q,hoc] at e;have q':oc=p.2:=HB.inj e;exact d w' (by rw[<-q'];exact hocd)
theorem kR {M:Model}{A:Around}{E:AT}{i:Nat}{x:Str}{v:V}{u:Value}{Q:Unit->Shared->Prop}(I:Inv X pins Hh H s)(hN:X.N.Nodup)(hi:X.N[i]?=some x)(hx:Loc X.env.scope x)(r:RelV v u)
  (h:∀s',Inv X pins (Hh.set i (some v)) H s'->Q () s') (hf:X.fn x=true\/X.env.scope.names.lookup x=some .local:=by first | exact .inl rfl | exact .inr rfl | assumption):wpAny M A (storeName X.env x u) Q E s :=
 se I hN hi hx r (λ s' I' _=>h s' I') hf
theorem Inv.Fm {s':Shared}{ch:List Addr}(I:Inv X pins Hh H s)(ho:s'.os=s.os)(u:Un (mx X.stack) ch H H' s.heap s'.heap)(bc:eS X.prog X.w H' s'.heap)(hg:AllBare s'.gens)
  (hch:∀b∈ch,(b∈X.ex\/X.eQ.heap.objs.size<=b)/\b≠X.env.locals/\(∀x c,X.env.cells.lookup x=some c->c≠b)/\∀p∈X.pn++pins,p.1≠b):Inv X pins Hh H' s':=by
 obtain⟨h',g',d',t',o'⟩:=s';have e:o' = s.os:=ho;subst e;exact I.call (g':=g') (t':=t') (d':=d') u bc hg hch
end
abbrev XK:=Value->Option Addr->Hp->Prop
abbrev St:=List (Option V)
abbrev VK:=V->Hp->Prop
abbrev TE:=St->Hp->VK->Prop
abbrev TT:=St->Hp->(Bool->Hp->Prop)->Prop
abbrev TA:=St->Hp->(List V->Hp->Prop)->Prop
structure Ends where
 nx:St->Hp->Prop
 rt:VK
 bk:St->Hp->Prop:=λ _ _=>False
 ct:St->Hp->Prop:=λ _ _=>False
abbrev TS:=Ends->St->Hp->Prop
def EP (X:Cx)(pins:BT)(Hh : St)(Q:VK)(u:Value)(s':Shared):Prop:=∃v H',Inv X pins Hh H' s'/\RelV v u/\Q v H'
def TP (X:Cx)(pins:BT)(Hh : St)(Q:Bool->Hp->Prop)(b:Bool)(s':Shared):Prop:=∃H',Inv X pins Hh H' s'/\Q b H'
def AP (X:Cx)(pins:BT)(Hh : St)(Q:List V->Hp->Prop)(us:List Value)(s':Shared):Prop:=∃vs H',Inv X pins Hh H' s'/\Vals vs us/\Q vs H'
def SP (X:Cx)(pins:BT)(D:Ends)(f:Flow)(s':Shared):Prop :=
 match f with
 | .next=>∃σ' H',Inv X pins σ' H' s'/\D.nx σ' H'
 | .brk=>∃σ' H',Inv X pins σ' H' s'/\D.bk σ' H'
 | .cont=>∃σ' H',Inv X pins σ' H' s'/\D.ct σ' H'
 | .ret u=>∃v σ' H',Inv X pins σ' H' s'/\RelV v u/\D.rt v H'
def PE (X:Cx)(e:Expr)(t:TE):Prop :=
 ∀(pins:BT) (s:Shared) (Hh : St) (H:Hp) (Q:VK),Inv X pins Hh H s->t Hh H Q->wpAny (model X.prog X.w) X.A (eval e X.env) (EP X pins Hh Q) X.xe s
def PT (X:Cx)(e:Expr)(t:TT):Prop :=
 ∀(pins:BT) (s:Shared) (Hh : St) (H:Hp) (Q:Bool->Hp->Prop),Inv X pins Hh H s->t Hh H Q->wpAny (model X.prog X.w) X.A (isTrue e X.env (eval e X.env)) (TP X pins Hh Q) X.xe s
def PW (X:Cx)(e:Expr)(t:TT):Prop :=
 ∀(whole:Sem Value) (pins:BT) (s:Shared) (Hh : St) (H:Hp) (Q:Bool->Hp->Prop),Inv X pins Hh H s->t Hh H Q->wpAny (model X.prog X.w) X.A (isTrue e X.env whole) (TP X pins Hh Q) X.xe s
theorem PW.pt {X:Cx}{e:Expr}{t:TT}(h:PW X e t):PT X e t:=h _
def PA (X:Cx)(es:List Expr)(t:TA):Prop :=
 ∀(pos:Pos) (pins:BT) (s:Shared) (Hh : St) (H:Hp) (Q:List V->Hp->Prop),Inv X pins Hh H s->t Hh H Q->wpAny (model X.prog X.w) X.A (spliced (backTo pos (starEach es X.env))) (AP X pins Hh Q) X.xe s
def PS (X:Cx)(st:Stmt)(t:TS):Prop :=
 ∀(pins:BT) (s:Shared) (Hh : St) (H:Hp) (D:Ends),Inv X pins Hh H s->t D Hh H->wpAny (model X.prog X.w) X.A (exec st X.env) (SP X pins D) X.xe s
def ji (X:Cx)(st:List Stmt)(t:TS):Prop :=
 ∀(pins:BT) (s:Shared) (Hh : St) (H:Hp) (D:Ends),Inv X pins Hh H s->t D Hh H->wpAny (model X.prog X.w) X.A (execs st X.env) (SP X pins D) X.xe s
theorem bx {α : Type}{t:Sem α}{Q Q':α->Shared->Prop}{M:Model}{A:Around}{E:AT}{s:Shared}(h:wpAny M A t Q E s)(hQ:∀a s,Q a s->Q' a s):wpAny M A t Q' E s:=J9 h hQ λ _ _ x=>x
section
variable {X:Cx}
inductive oR (i:Nat) (Hh : St) (H:Hp) (Q:VK):Prop
 | mk (v:_) (_:Hh[i]?=some (some v)) (_:Q v H)
def tC (v:V):TE:=λ _ H Q=>Q v H
theorem Ef {i:Nat} {x:Str} {pos:Pos} (hN:X.N[i]?=some x) (hv:Ee X.env.scope x) (hd:(x == ("__debug__" : Str))=false:=by decide) (hcd:(x == ("__classdict__" : Str))=false:=by decide):PE X (.Name x pos) (oR i):=by
 intro pins s Hh H Q I h;obtain⟨v,e,h⟩:=h;obtain⟨m,hn,hl⟩:=I.loc;obtain⟨u,r,l⟩:=hl i x v hN e hv;have fin:EP X pins Hh Q u s:=⟨v,H,I,r,h⟩
 rcases l with ⟨hk,hm⟩ | ⟨hk,c,hc,hcell⟩
 ·exact wpAny_Name (wpAny_loadName_local I.ok.kind hk hn hm fin) hd
 ·rcases hk with hk | hk
  ·exact wpAny_Name (wpAny_loadName_cell I.ok.kind hk hc hcell fin) hd
  ·exact wpAny_Name (wpAny_loadName_free I.ok.kind hk hc hcell fin hcd) hd
theorem ao {i j pos}:PE X (.Constant (.int i) j pos) (tC (.int i)):=λ _ _ _ H _ I h=>wpAny_Constant_int ⟨.int i,H,I.tok _,⟨_,rfl⟩,h⟩
theorem cM {b j pos}:PE X (.Constant (.bool b) j pos) (tC (.bl b)):=λ _ _ _ H _ I h=>Constant_bool ⟨.bl b,H,I,rfl,h⟩
theorem cD {j pos}:PE X (.Constant .none j pos) (tC .aZ):=λ _ _ _ H _ I h=>Constant_none ⟨.aZ,H,I,rfl,h⟩
theorem bG {x j pos}:PE X (.Constant (.str x) j pos) (tC (.str x)):=λ _ _ _ H _ I h=>Calls.Constant_str ⟨.str x,H,I.tok _,⟨_,rfl⟩,h⟩
def Gl (X:Cx)(x:Str):Prop:=X.env.kindOf x=some .globalImplicit
theorem qQ {E:AT}{pins:BT}{s:Shared}{Hh : St}{H:Hp}{x:Str}{u:Value}{pos:Pos}{Q:AT}(I:Inv X pins Hh H s)(hg:Gl X x)(hm:X.mg x=some u)(h:Q u s)
  (hd:(x == ("__debug__" : Str))=false:=by decide):wpAny (model X.prog X.w) X.A (eval (.Name x pos) X.env) Q E s :=
 Calls.Name_function_global I.ok.kind hg (Calls.loadGlobal_global (by rw[I.ok.glob];exact I.mod.glob.keeps I.bk) hm h) hd
theorem iM {E:AT}{pins:BT}{s:Shared}{Hh : St}{H:Hp}{x:Str}{u:Value}{pos:Pos}{Q:AT}(I:Inv X pins Hh H s)(hg:Gl X x)(hm:X.mg x=none)(hv:bootBuiltins x=some u)(h:Q u s)
  (hn:x ≠ "__name__" := by decide) (hd:(x == ("__debug__" : Str))=false:=by decide):wpAny (model X.prog X.w) X.A (eval (.Name x pos) X.env) Q E s:=by
 obtain⟨mb,h1,h2⟩:=I.mod.blt;exact Calls.Name_function_global I.ok.kind hg (Calls.loadGlobal_builtin (by rw[I.ok.glob];exact I.mod.glob.keeps I.bk) hm (by rw[I.ok.blt];exact h1.keeps I.bk) ((h2 x hn).trans hv) h) hd
theorem gm {x:Str} {v:V} {u:Value} {pos:Pos} (hg:Gl X x) (hm:X.mg x=some u) (r:RelV v u) (hd:(x == ("__debug__" : Str))=false:=by decide):PE X (.Name x pos) (tC v) :=
 λ _ _ _ H _ I h=>qQ I hg hm ⟨v,H,I,r,h⟩ hd
theorem C1 {x:Str} {v:V} {u:Value} {pos:Pos} (hg:Gl X x) (hm:X.mg x=none) (hv:bootBuiltins x=some u) (r:RelV v u) (hn:x ≠ "__name__" := by decide) (hd:(x == ("__debug__" : Str))=false:=by decide):PE X (.Name x pos) (tC v) :=
 λ _ _ _ H _ I h=>iM I hg hm hv ⟨v,H,I,r,h⟩ hn hd
variable {a b:Expr}{ta tb:TE}{pos:Pos}
def PC (X:Cx)(op:CmpOp)(a b:Expr)(t:TE):Prop :=
 ∀(pins:BT) (s:Shared) (Hh : St) (H:Hp) (Q:VK),Inv X pins Hh H s->t Hh H Q ->
  wpAny (model X.prog X.w) X.A (eval a X.env) (λ v s₁=>wpAny (model X.prog X.w) X.A (eval b X.env) (λ u s₂=>wpAny (model X.prog X.w) X.A (compareOp op v u) (EP X pins Hh Q) X.xe s₂) X.xe s₁) X.xe s
theorem uD (b:Expr){op:CmpOp}(h:op≠.In)(h2:op≠.NotIn):behindInMarks op b=false:=by
 have e1:(op == CmpOp.In)=false:=by cases op<;>first | rfl | exact absurd rfl h
 have e2:(op == CmpOp.NotIn)=false:=by cases op<;>first | rfl | exact absurd rfl h2
 cases b<;>simp[behindInMarks,e1,e2]
def Gi (ta:TE):TE:=λ Hh H Q=>ta Hh H λ x H1=>Q (.bl (decide (x=.aZ))) H1
def Fn (ta:TE):TE:=λ Hh H Q=>ta Hh H λ x H1=>Q (.bl (!decide (x=.aZ))) H1
theorem RelV.uE {x:V}{v:Value}(r:RelV x v):(v == Value.none)=decide (x=.aZ):=by
 cases x with
 | aZ=>cases r;rfl
 | bl _=>cases r;rfl
 | int _=>obtain⟨t,rfl⟩:=r;rfl
 | str _=>obtain⟨t,rfl⟩:=r;rfl
 | jg _=>obtain⟨t,rfl⟩:=r;rfl
 | sd _=>obtain⟨t,rfl⟩:=r;rfl
 | ref _=>cases r;rfl
 | ty _=>cases r;rfl
theorem fw {j pos'}(ha:PE X a ta):PC X .Is a (.Constant .none j pos') (Gi ta):=by
 intro pins s Hh H Q I h;refine bx (ha pins s Hh H _ I h) λ v s1 ⟨x,H1,I1,r1,q1⟩=>?_
 exact Constant_none (is_none_gen ⟨.bl _,H1,I1,by rw[r1.uE];rfl,q1⟩)
theorem cX {j pos'}(ha:PE X a ta):PC X .IsNot a (.Constant .none j pos') (Fn ta):=by
 intro pins s Hh H Q I h;refine bx (ha pins s Hh H _ I h) λ v s1 ⟨x,H1,I1,r1,q1⟩=>?_
 exact Constant_none (isnot_none_gen ⟨.bl _,H1,I1,by rw[r1.uE];rfl,q1⟩)
inductive Fo (Q:(Bool->Hp->Prop)) (x:V) (H1:Hp):Prop
 | mk (c:_) (_:x=.bl c) (_:Q c H1)
def tB (t:TE):TT:=λ Hh H Q=>t Hh H λ x H1=>Fo Q x H1
theorem iN {op:CmpOp}{t:TE}(h:PC X op a b t)(h1:behindInMarks op b=false:=by first | exact uD _ ⋯ ⋯ | rfl):PE X (.Compare a [op] [b] pos) t:=λ pins s Hh H Q I hw=>wpAny_Compare1 (h pins s Hh H Q I hw) h1
theorem cO {op:CmpOp}{t:TE}(h:PC X op a b t)(h1:behindInMarks op b=false:=by first | exact uD _ ⋯ ⋯ | rfl):PT X (.Compare a [op] [b] pos) (tB t):=by
 intro pins s Hh H Q I hw;refine wpAny_isTrue_Compare1 (bx (h pins s Hh H _ I hw) λ v s1 h1=>bx h1 λ u s2 h2=>bx h2 λ c s3 ⟨x,H1,I1,r1,q1⟩=>?_) h1;obtain⟨d,rfl,q⟩:=q1;cases r1;exact Kj ⟨H1,I1,q⟩
theorem eI {e:Expr}{t:TE}(h:PE X e t)(he:∀whole,isTrue e X.env whole=(do let v <-whole;standAt e.pos;holding [v] (truthy v)):=by intro _;rfl):PT X e (tB t):=by
 intro pins s Hh H Q I hw;refine isTrue_plain (bx (h pins s Hh H _ I hw) λ v s1 ⟨x,H1,I1,r1,q1⟩=>?_) (he _);obtain⟨d,rfl,q⟩:=q1;cases r1;exact Kj ⟨H1,I1,q⟩
variable {tA tB':TT}{rest:List Expr}
def Gj (t u:TT):TT:=λ Hh H Q=>t Hh H λ c H1=>if c=true then u Hh H1 Q else Q false H1
def GX (t u:TT):TT:=λ Hh H Q=>t Hh H λ c H1=>if c=true then Q true H1 else u Hh H1 Q
def Gk (t:TT):TT:=λ Hh H Q=>t Hh H λ c H1=>Q (!c) H1
theorem cS (ha:PT X a tA):PW X (.BoolOp .And [a] pos) tA:=by
 intro wh pins s Hh H Q I h;refine isTrue_and (bx (ha pins s Hh H Q I h) λ c s1 e=>?_);cases c with
 | true=>exact isTrue_and_nil e
 | false=>exact e
theorem ff (ha:PT X a tA):PW X (.BoolOp .Or [a] pos) tA:=by
 intro wh pins s Hh H Q I h;refine isTrue_or (bx (ha pins s Hh H Q I h) λ c s1 e=>?_);cases c with
 | false=>exact isTrue_or_nil e
 | true=>exact e
theorem df (ha:PT X a tA)(hb:PW X (.BoolOp .And (b::rest) pos) tB'):PW X (.BoolOp .And (a::b::rest) pos) (Gj tA tB'):=by
 intro wh pins s Hh H Q I h;refine isTrue_and (bx (ha pins s Hh H _ I h) λ c s1 ⟨H1,I1,q1⟩=>?_);cases c with
 | true=>exact hb wh pins s1 Hh H1 Q I1 q1
 | false=>exact⟨H1,I1,q1⟩
theorem fO (ha:PT X a tA)(hb:PW X (.BoolOp .Or (b::rest) pos) tB'):PW X (.BoolOp .Or (a::b::rest) pos) (GX tA tB'):=by
 intro wh pins s Hh H Q I h;refine isTrue_or (bx (ha pins s Hh H _ I h) λ c s1 ⟨H1,I1,q1⟩=>?_);cases c with
 | true=>exact⟨H1,I1,q1⟩
 | false=>exact hb wh pins s1 Hh H1 Q I1 q1
theorem fS (ha:PT X a tA):PT X (.UnaryOp .Not a pos) (Gk tA):=by
 intro pins s Hh H Q I h;exact isTrue_not (ha pins s Hh H (λ c H1=>Q (!c) H1) I h)
inductive Aw (tb:TE) (Hh : St) (Q:VK) (x:V) (H1:Hp):Prop
 | mk (c:_) (_:x=.bl c) (_:if c=true then tb Hh H1 Q else Q (.bl false) H1)
def Fp (ta tb:TE):TE:=λ Hh H Q=>ta Hh H λ x H1=>Aw tb Hh Q x H1
inductive C2 (tb:TE) (Hh : St) (Q:VK) (x:V) (H1:Hp):Prop
 | mk (c:_) (_:x=.bl c) (_:if c=true then Q (.bl true) H1 else tb Hh H1 Q)
def Gm (ta tb:TE):TE:=λ Hh H Q=>ta Hh H λ x H1=>C2 tb Hh Q x H1
theorem fg {op}{t:TE}(h:PE X a t):PE X (.BoolOp op [a] pos) t:=λ pins s Hh H Q I hw=>BoolOp_one (h pins s Hh H Q I hw)
theorem hJ (ha:PE X a ta)(hb:PE X (.BoolOp .And (b::rest) pos) tb):PE X (.BoolOp .And (a::b::rest) pos) (Fp ta tb):=by
 intro pins s Hh H Q I h;refine BoolOp_and (bx (ha pins s Hh H _ I h) λ v s1 ⟨x,H1,I1,r1,q1⟩=>?_);obtain⟨c,rfl,q1⟩:=q1;cases r1;refine Kj ?_;cases c with
 | true=>exact hb pins s1 Hh H1 Q I1 q1
 | false=>exact⟨.bl false,H1,I1,rfl,q1⟩
theorem nF (ha:PE X a ta)(hb:PE X (.BoolOp .Or (b::rest) pos) tb):PE X (.BoolOp .Or (a::b::rest) pos) (Gm ta tb):=by
 intro pins s Hh H Q I h;refine BoolOp_or (bx (ha pins s Hh H _ I h) λ v s1 ⟨x,H1,I1,r1,q1⟩=>?_);obtain⟨c,rfl,q1⟩:=q1;cases r1;refine Kj ?_;cases c with
 | false=>exact hb pins s1 Hh H1 Q I1 q1
 | true=>exact⟨.bl true,H1,I1,rfl,q1⟩
def GY (t:TT)(ta tb:TE):TE:=λ Hh H Q=>t Hh H λ c H1=>if c=true then ta Hh H1 Q else tb Hh H1 Q
theorem fT {c:Expr}(hc:PT X c tA)(ha:PE X a ta)(hb:PE X b tb):PE X (.IfExp c a b pos) (GY tA ta tb):=by
 intro pins s Hh H Q I h;refine wpAny_IfExp (bx (hc pins s Hh H _ I h) λ d s1 ⟨H1,I1,q1⟩=>?_);cases d with
 | true=>exact ha pins s1 Hh H1 Q I1 q1
 | false=>exact hb pins s1 Hh H1 Q I1 q1
end
def aT (K:Hl)(H:Hp)(a:Addr)(xs:List V):Prop :=
 Rd H a (.lst xs) \/
  ∃(o:Obj) (its:Array Value) (n:Nat),K.lookup a=some o/\o.cls=.type "list" /\ o.dict=none/\o.data=.seq its n/\its.size<=sizeLine/\Vals xs its.toList
def au (K:Hl)(H:Hp)(a:Addr)(xs:List V):Prop :=
 Rd H a (.tup xs) \/
  ∃(o:Obj) (its:Array Value) (n:Nat),K.lookup a=some o/\o.cls=.type "tuple" /\ o.data=.seq its n/\its.size<=sizeLine/\Vals xs its.toList
def Gn:Value->Option V
 | .none=>some .aZ
 | .bool b=>some (.bl b)
 | .int i _=>some (.int i)
 | .str x _=>some (.str x)
 | .bytes b _=>some (.jg b)
 | .float b _=>some (.sd b)
 | .ref a=>some (.ref a)
 | .type n=>some (.ty n)
 | _=>none
theorem RelV.abs {x:V}{u:Value}(r:RelV x u):Gn u=some x:=by
 cases x with
 | aZ=>cases r;rfl
 | bl _=>cases r;rfl
 | int _=>obtain⟨t,rfl⟩:=r;rfl
 | str _=>obtain⟨t,rfl⟩:=r;rfl
 | jg _=>obtain⟨t,rfl⟩:=r;rfl
 | sd _=>obtain⟨t,rfl⟩:=r;rfl
 | ref _=>cases r;rfl
 | ty _=>cases r;rfl
theorem RelV.inj {x y:V}{u:Value}(r:RelV x u)(q:RelV y u):x=y:=HB.inj (r.abs.symm.trans q.abs)
theorem Vals.inj:∀{xs ys:List V} {us:List Value},Vals xs us->Vals ys us->xs=ys
 | _,_,_,.nil,.nil=>rfl
 | _,_,_,.cons r t,.cons r' t'=>by rw[r.inj r',Vals.inj t t']
section
variable {X:Cx}{pins:BT}{Hh : St}{H:Hp}{s:Shared}{a:Addr}{xs ys:List V}
theorem aT.of {K:Hl}(h:H a=some (.lst xs)):aT K H a xs:=.inl (.inl h)
theorem au.of {K:Hl}(h:H a=some (.tup xs)):au K H a xs:=.inl (.inl h)
theorem Inv.list (I:Inv X pins Hh H s)(h:aT X.K H a xs):∃its:List Value,Vals xs its/\PlainL s.heap a its.toArray/\xs.length<=sizeLine:=by
 rcases h with h | ⟨o,its,n,hk,hc,hd,hs,hz,r⟩
 ·obtain⟨z,its,n,r,e⟩:=h.ok I.bc;exact⟨its,r,⟨_,n,e,rfl,rfl,rfl⟩,z⟩
 ·exists its.toList,r,⟨o,n,I.ft a o hk,hc,hd,by simpa using hs⟩;have e:=r.length;simp only[Ih] at e;omega
theorem Inv.tuple (I:Inv X pins Hh H s)(h:au X.K H a xs):∃its:List Value,Vals xs its/\IsTup s.heap a its.toArray/\xs.length<=sizeLine:=by
 rcases h with h | ⟨o,its,n,hk,hc,hs,hz,r⟩
 ·obtain⟨z,its,r,o,e,c,n,d,_⟩:=h.ok I.bc;exact⟨its,r,⟨o,e,c,n,d⟩,z⟩
 ·exists its.toList,r,⟨o,I.ft a o hk,hc,n,by simpa using hs⟩;have e:=r.length;simp only[Ih] at e;omega
theorem Inv.oU (I:Inv X pins Hh H s)(h:aT X.K H a xs)(h':aT X.K H a ys):xs=ys:=by
 obtain⟨its,r,⟨o,n,e,_,_,d⟩,_⟩:=I.list h;obtain⟨its',r',⟨o',n',e',_,_,d'⟩,_⟩:=I.list h';rw[e] at e';cases e';rw[d] at d';injection d' with d1 _
 have:its=its':=by simpa using congrArg Array.toList d1
 subst this;exact r.inj r'
theorem Inv.gS (I:Inv X pins Hh H s)(h:au X.K H a xs)(h':au X.K H a ys):xs=ys:=by
 obtain⟨its,r,⟨o,e,_,n,d⟩,_⟩:=I.tuple h;obtain⟨its',r',⟨o',e',_,n',d'⟩,_⟩:=I.tuple h';rw[e] at e';cases e';rw[d] at d';injection d' with d1 _
 have:its=its':=by simpa using congrArg Array.toList d1
 subst this;exact r.inj r'
end
abbrev Cx.j1 (X:Cx)(E:AT):Cx:={ X with xe:=E }
abbrev Cx.wK (X:Cx):Cx:=X.j1 λ _ _=>False
theorem Cx.Ok.j1 {X:Cx}(ok:X.Ok)(E:AT):(X.j1 E).Ok :=
 ⟨ok.mod,ok.kind,ok.glob,ok.blt,ok.above,ok.inj,ok.has,ok.yW,ok.hd,ok.frames,ok.Cv,ok.FR,ok.bs,ok.pJ,ok.uz,ok.xJ,ok.iX,ok.uA⟩
theorem Cx.Ok.iO {X:Cx}{E:AT}(ok:(X.j1 E).Ok):X.Ok :=
 ⟨ok.mod,ok.kind,ok.glob,ok.blt,ok.above,ok.inj,ok.has,ok.yW,ok.hd,ok.frames,ok.Cv,ok.FR,ok.bs,ok.pJ,ok.uz,ok.xJ,ok.iX,ok.uA⟩
section
variable {X:Cx}{pins:BT}{Hh : St}{H:Hp}{s:Shared}{E:AT}
theorem Inv.j1 (I:Inv X pins Hh H s)(E:AT):Inv (X.j1 E) pins Hh H s:=⟨I.ok.j1 E,I.os,I.bare,I.base,I.loc,I.cell,I.free,I.fD,I.pin,I.bc,I.len⟩
theorem Inv.iO (I:Inv (X.j1 E) pins Hh H s):Inv X pins Hh H s:=⟨I.ok.iO,I.os,I.bare,I.base,I.loc,I.cell,I.free,I.fD,I.pin,I.bc,I.len⟩
theorem SP.iO {D:Ends}{f:Flow}{s':Shared}(h:SP (X.j1 E) pins D f s'):SP X pins D f s':=by
 cases f with
 | next=>obtain⟨σ',H',I,q⟩:=h;exact⟨σ',H',I.iO,q⟩
 | brk=>obtain⟨σ',H',I,q⟩:=h;exact⟨σ',H',I.iO,q⟩
 | cont=>obtain⟨σ',H',I,q⟩:=h;exact⟨σ',H',I.iO,q⟩
 | ret u=>obtain⟨v,σ',H',I,r,q⟩:=h;exact⟨v,σ',H',I.iO,r,q⟩
theorem ji.wK {st:List Stmt}{t:TS}(h:ji X.wK st t):ji X st t:=λ pins s Hh H D I hw =>
 J9 (h pins s Hh H D (I.j1 _) hw) (λ _ _ q=>q.iO) λ _ _ z=>False.elim z
end
section
variable {X:Cx}{st:Stmt}{rest:List Stmt}{t u:TS}{e:Expr}{te:TE}{pos:Pos}
def Fq:TS:=λ D Hh H=>D.nx Hh H
def Gp (t u:TS):TS:=λ D Hh H=>t { D with nx:=u D } Hh H
theorem aK:ji X [] Fq:=λ _ _ Hh H _ I h=>Ky ⟨Hh,H,I,h⟩
theorem ai (h1:PS X st t)(h2:ji X rest u):ji X (st::rest) (Gp t u):=by
 intro pins s Hh H D I h;refine wpAny_execs_cons (bx (h1 pins s Hh H { D with nx:=u D } I h) λ f s1 q=>?_);cases f with
 | next =>
  obtain⟨σ',H',I',q⟩:=q;exact h2 pins s1 σ' H' D I' q
 | ret v=>exact q
 | brk=>exact q
 | cont=>exact q
theorem ar (h1:PS X st t):ji X [st] t:=by
 intro pins s Hh H D I h;refine wpAny_execs_cons (bx (h1 pins s Hh H D I h) λ f s1 q=>?_);cases f with
 | next=>exact Ky q
 | ret v=>exact q
 | brk=>exact q
 | cont=>exact q
theorem Inv.quiet {pins:BT}{Hh : St}{H:Hp}{s:Shared}(I:Inv X pins Hh H s):interactive X.env=false:=by simp[interactive,I.ok.kind]
def Fs (te:TE):TS:=λ D Hh H=>te Hh H λ _ H1=>D.nx Hh H1
theorem eD (he:PE X e te)(hs:swapsWith e none pos.line X.env=pure false:=by rfl):PS X (.Expr e pos) (Fs te):=by
 intro pins s Hh H D I h;exact wpAny_Expr_any (bx (he pins s Hh H _ I h) λ v s1 ⟨x,H1,I1,r1,q1⟩=>⟨Hh,H1,I1,q1⟩) I.quiet hs
def Ax (te:TE):TS:=λ D Hh H=>te Hh H D.rt
theorem aF (he:PE X e te):PS X (.Return (some e) pos) (Ax te):=by
 intro pins s Hh H D I h;exact wpAny_Return_some (bx (he pins s Hh H _ I h) λ v s1 ⟨x,H1,I1,r1,q1⟩=>⟨x,Hh,H1,I1,r1,q1⟩)
def Gq (c:TT)(t u:TS):TS:=λ D Hh H=>c Hh H λ b H1=>if b=true then t D Hh H1 else u D Hh H1
theorem aS {c:Expr}{a b:List Stmt}{tc:TT}(hc:PT X c tc)(ha:ji X a t)(hb:ji X b u):PS X (.If c a b pos) (Gq tc t u):=by
 intro pins s Hh H D I h;refine wpAny_If (bx (hc pins s Hh H _ I h) λ d s1 ⟨H1,I1,q1⟩=>?_);cases d with
 | true=>exact ha pins s1 Hh H1 D I1 q1
 | false=>exact hb pins s1 Hh H1 D I1 q1
def Eg:TS:=λ _ _ _=>False
theorem Ay:PS X st Eg:=λ _ _ _ _ _ _ h=>h.elim
end
abbrev TG:=V->St->Hp->(St->Hp->Prop)->Prop
abbrev uF:=List V->St->Hp->(St->Hp->Prop)->Prop
def PG (X:Cx)(target:Expr)(t:TG):Prop :=
 ∀(pins:BT) (s:Shared) (Hh : St) (H:Hp) (v:V) (u:Value) (Q:St->Hp->Prop),Inv X pins Hh H s->RelV v u->t v Hh H Q ->
  wpAny (model X.prog X.w) X.A (assign target X.env u) (λ _ s'=>∃σ' H',Inv X pins σ' H' s'/\Q σ' H') X.xe s
def Cw (X:Cx)(ts:List Expr)(t:uF):Prop :=
 ∀(pins:BT) (s:Shared) (Hh : St) (H:Hp) (vs:List V) (us:List Value) (Q:St->Hp->Prop),Inv X pins Hh H s->Vals vs us->t vs Hh H Q ->
  wpAny (model X.prog X.w) X.A (assignInOrder ((assignEach ts X.env).map (·.2)) us) (λ _ s'=>∃σ' H',Inv X pins σ' H' s'/\Q σ' H') X.xe s
abbrev Az:=V->V->V->Hp->(Hp->Prop)->Prop
def AA (X:Cx)(t:Az):Prop :=
 ∀(pins:BT) (s:Shared) (Hh : St) (H:Hp) (o i v:V) (ov iv u:Value) (Q:Hp->Prop),Inv X pins Hh H s->RelV o ov->RelV i iv->RelV v u->t o i v H Q ->
  wpAny (model X.prog X.w) X.A (setItem ov iv u) (λ _ s'=>∃H',Inv X pins Hh H' s'/\Q H') X.xe s
section
variable {X:Cx}{pos:Pos}
def um (i:Nat):TG:=λ v Hh H Q=>Q (Hh.set i (some v)) H
theorem ay {i:Nat}{x:Str}(hN:X.N.Nodup)(hi:X.N[i]?=some x)(hx:Loc X.env.scope x)(hf:X.fn x=true\/X.env.scope.names.lookup x=some .local:=by first | exact .inl rfl | exact .inr rfl | assumption):PG X (.Name x pos) (um i):=by
 intro pins s Hh H v u Q I r h;exact wpAny_assign_Name (kR I hN hi hx r (λ s' I'=>⟨_,H,I',h⟩) hf)
def Gr:uF:=λ vs Hh H Q=>vs=[]/\Q Hh H
inductive Ft (t:TG) (u:uF) (vs:List V) (Hh : St) (H:Hp) (Q:(St->Hp->Prop)):Prop
 | mk (v r:_) (_:vs=v::r) (_:t v Hh H λ σ' H'=>u r σ' H' Q)
theorem bN:Cw X [] Gr:=by
 intro pins s Hh H vs us Q I r h;obtain⟨e,h⟩:=h;subst e;cases r;exact assignInOrder_nil ⟨Hh,H,I,h⟩
theorem aJ {e:Expr}{es:List Expr}{t:TG}{u:uF}(h1:PG X e t)(h2:Cw X es u)
  (hs:(assignEach (e::es) X.env).map (·.2)=assign e X.env::(assignEach es X.env).map (·.2):=by rfl):Cw X (e::es) (Ft t u):=by
 intro pins s Hh H vs us Q I r h;obtain⟨v,vr,e1,h⟩:=h;subst e1;cases r with
 | cons r rr =>
  rw[hs];refine assignInOrder_cons (bx (h1 pins s Hh H _ _ _ I r h) λ _ s1 ⟨σ1,H1,I1,q1⟩=>?_);exact h2 pins s1 σ1 H1 _ _ Q I1 rr q1
inductive AB (K:Hl) (n:Nat) (t:uF) (v:V) (Hh : St) (H:Hp) (Q:(St->Hp->Prop)):Prop
 | mk (a xs:_) (_:v=.ref a) (_:au K H a xs) (_:xs.length=n) (_:t xs Hh H Q)
theorem bX {es:List Expr}{k:Nat}{t:uF}{n:Nat}(hc:X.calm=true)(h:Cw X es t)
  (hn:(assignEach es X.env).length=n:=by rfl) (hst:(assignEach es X.env).findIdx? (·.1)=none:=by rfl):PG X (.Tuple es k pos) (AB X.K n t):=by
 intro pins s Hh H v u Q I r hw;obtain⟨a,xs,e1,hq,hl,hw⟩:=hw;subst e1;cases r;obtain⟨its,rv,ht,hz⟩:=I.tuple hq;refine assign_Tuple_tuple (I.ok.hd hc) ht (by simp[hn,<-hl,rv.length]) hst λ h' hx=>?_
 have I1:Inv X pins Hh H { s with heap:=h' }:=I.kept (t':=s.toks) λ b o e=>hx b o (Hw (Hq e)) e
 exact h pins _ Hh H xs _ Q I1 (by simpa using rv) hw
def Gs (to ti:TE)(t:Az):TG:=λ v Hh H Q=>to Hh H λ o H1=>ti Hh H1 λ i H2=>t o i v H2 λ H3=>Q Hh H3
theorem hR {o i:Expr}{to ti:TE}{t:Az}(ho:PE X o to)(hi:PE X i ti)(hs:AA X t)
  (ha:∀v,assign (.Subscript o i pos) X.env v=(do
   let ov <-holding [v] (eval o X.env)
   let iv <-holding [v,ov] (eval i X.env)
   standAt pos
   holding [v,ov,iv] (setItem ov iv v)
   release [v,ov,iv] []):=by intro _;rfl):PG X (.Subscript o i pos) (Gs to ti t):=by
 intro pins s Hh H v u Q I r h;rw[ha];refine J7 (Kb (bx (ho pins s Hh H _ I h) λ ov s1 ⟨x,H1,I1,r1,q1⟩=>?_));refine J7 (Kb (bx (hi pins s1 Hh H1 _ I1 q1) λ iv s2 ⟨y,H2,I2,r2,q2⟩=>?_));refine J7 (Kr (J7 (Kb (bx (hs pins s2 Hh H2 x y v ov iv u _ I2 r1 r2 r q2) λ _ s3 ⟨H3,I3,q3⟩=>?_))));exact wpAny_release ⟨Hh,H3,I3,q3⟩
def xK (te:TE)(g:TG):TS:=λ D Hh H=>te Hh H λ x H1=>g x Hh H1 D.nx
theorem cA {tg e:Expr}{te:TE}{g:TG}(he:PE X e te)(hg:PG X tg g)(hs:swapsWithSole [tg] e pos.line X.env=pure false:=by rfl)(hw:swappedStores [tg] e X.env=pure none:=by rfl)
  (h1:(assignEach [tg] X.env).map (·.2)=[assign tg X.env]:=by rfl):PS X (.Assign [tg] e pos) (xK te g):=by
 intro pins s Hh H D I h;refine wpAny_Assign_stores (bx (he pins s Hh H _ I h) λ v s1 ⟨x,H1,I1,r1,q1⟩=>?_) hs hw;rw[h1];exact bx (hg pins s1 Hh H1 x v _ I1 r1 q1) λ _ s2 q=>q
theorem aN {i:Nat}{x:Str}{e:Expr}{te:TE}{pos':Pos}(hN:X.N.Nodup)(hi:X.N[i]?=some x)(hx:Loc X.env.scope x)(he:PE X e te)(hs:swapsWith e (some (.Name x pos')) pos.line X.env=pure false:=by rfl)(hf:X.fn x=true\/X.env.scope.names.lookup x=some .local:=by first | exact .inl rfl | exact .inr rfl | assumption) :
  PS X (.Assign [.Name x pos'] e pos) (xK te (um i)):=by
 intro pins s Hh H D I h;refine wpAny_Assign_Name (bx (he pins s Hh H _ I h) λ v s1 ⟨y,H1,I1,r1,q1⟩=>?_) hs;exact kR I1 hN hi hx r1 (λ s2 I2=>⟨_,H1,I2,q1⟩) hf
inductive C3 (i:Nat) (j:Nat) (D:Ends) (Hh : St) (vs:List V) (H1:Hp):Prop
 | mk (v w:_) (_:vs=[v,w]) (_:D.nx ((Hh.set i (some v)).set j (some w)) H1)
def Gu (i j:Nat)(ta:TA):TS:=λ D Hh H=>ta Hh H λ vs H1=>C3 i j D Hh vs H1
theorem yX {i j:Nat}{x y:Str}{a b:Expr}{ta:TA}{px py pt:Pos}{kt k2 pt2}(hc:X.calm=true)(hN:X.N.Nodup)(hi:X.N[i]?=some x)(hj:X.N[j]?=some y)(hij:i≠j)
  (hx:X.env.scope.names.lookup x=some .local) (hy:X.env.scope.names.lookup y=some .local) (ha:PA X [a,b] ta)
  (hw:swappedStores [.Tuple [.Name x px,.Name y py] kt pt] (.Tuple [a,b] k2 pt2) X.env=pure (some [x,y]))
  (hs:swapsWithSole [.Tuple [.Name x px,.Name y py] kt pt] (.Tuple [a,b] k2 pt2) pos.line X.env=pure false:=by rfl) :
  PS X (.Assign [.Tuple [.Name x px,.Name y py] kt pt] (.Tuple [a,b] k2 pt2) pos) (Gu i j ta):=by
 intro pins s Hh H D I h;rw[exec_Assign_arm];refine J7 (Kr ?_);rw[hs];refine J7 (J8 ?_);rw[if_neg ⋯];refine J7 (Tuple_ (bx (ha _ pins s Hh H _ I h) λ us s1 ⟨vs,H1,I1,r1,q1⟩=>?_));obtain⟨v,w,e1,q1⟩:=q1;subst e1;obtain⟨u1,u2,rfl,rv,rw'⟩:∃u1 u2,us=[u1,u2]/\RelV v u1/\RelV w u2:=by
  cases r1 with
  | cons p q =>
   cases q with
   | cons p' q' =>
    cases q';exact⟨_,_,rfl,p,p'⟩
 refine Ke ?_ (by show 2<=sizeLine;decide);have I2:Inv X pins Hh H1 { s1 with heap:=s1.heap.push { cls:=.type "tuple",data:=.seq [u1,u2].toArray } }:=I1.kept (t':=s1.toks) λ b o e=>Hr _ e
 rw[hw];refine J7 (J8 ?_);show wpAny (model X.prog X.w) X.A (do rule "assign.swapped-stores";let items <-unpackItems (.ref s1.heap.objs.size) 2 none;assignInOrder [λ v=>bindName X.env y v,λ v=>bindName X.env x v] items.reverse;pure Flow.next) _ _ _;refine J7 (Kf (J7 (unpackItems_tuple (items:=#[u1,u2]) (I.ok.hd hc) (IsTup.new s1.heap _) λ h' hx'=>?_)));have I3:=I2.kept (h':=h') (t':=s1.toks) λ b o e=>hx' b o (Hw (Hq e)) e
 show wpAny _ _ (assignInOrder [λ v=>bindName X.env y v,λ v=>bindName X.env x v] [u2,u1] >>= λ _=>pure Flow.next) _ _ _;refine J7 (assignInOrder_cons (wpAny_bindName (kR I3 hN hj (.inl hy) rw' (λ s2 I4=>?_) (.inr hy))));refine assignInOrder_cons (wpAny_bindName (kR I4 hN hi (.inl hx) rv (λ s3 I5=>assignInOrder_nil (J8 ?_)) (.inr hx)));rw[List.set_comm _ _ (Ne.symm hij)] at I5;exact⟨_,H1,I5,q1⟩
end
section
variable {X:Cx}{pos:Pos}
def Eh (c:TT)(tb:TS):TS:=λ D Hh H=>∃W:Nat->St->Hp->Prop,(∃m,W m Hh H)/\∀m Hh H,W m Hh H ->
 c Hh H λ b H1=>if b=true then ∃N:St->Hp->Prop,(∀σ' H',N σ' H'->∃m',m' < m/\W m' σ' H')/\tb { D with nx:=N,ct:=N,bk:=D.nx } Hh H1 else D.nx Hh H1
theorem uG {c:Expr}{body:List Stmt}{tc:TT}{tb:TS}(hp:PassesOwn (model X.prog X.w) X.A X.env X.xe)(hc:PT X c tc)(hb:ji X body tb):PS X (.While c body [] pos) (Eh tc tb):=by
 intro pins s Hh H D I h;obtain⟨W,⟨m0,w0⟩,turn⟩:=h;refine wpAny_While (codeAny_whileLoop (λ n s'=>∃σ' H',Inv X pins σ' H' s'/\W n σ' H') ?_ m0 ⟨Hh,H,I,w0⟩);rintro n s1 ⟨σ1,H1,I1,w1⟩;refine Kn hp (bx (hc pins s1 σ1 H1 _ I1 (turn n σ1 H1 w1)) λ b s2 ⟨H2,I2,q2⟩=>?_);cases b with
 | true =>
  obtain⟨N,hN,q2⟩:=q2;rw[if_pos rfl];refine Kn hp (bx (hb pins s2 σ1 H2 _ I2 q2) λ f s3 q3=>?_);cases f with
  | next =>
   obtain⟨σ3,H3,I3,n3⟩:=q3;obtain⟨m',hm,w3⟩:=hN σ3 H3 n3;exact⟨m',hm,σ3,H3,I3,w3⟩
  | cont =>
   obtain⟨σ3,H3,I3,n3⟩:=q3;obtain⟨m',hm,w3⟩:=hN σ3 H3 n3;exact⟨m',hm,σ3,H3,I3,w3⟩
  | brk=>exact q3
  | ret v=>exact q3
 | false =>
  rw[if_neg HK];exact Ky ⟨σ1,H2,I2,q2⟩
end
structure It where
 go:Nat->Hp->Prop
 sf:Nat->Hp->V->Hp->Prop
 stop:Nat->Hp->Prop
def iq (X:Cx)(pins:BT)(H:Hp)(b:Addr):Prop :=
 H b=none/\b≠X.env.locals/\b∉X.fs/\(b∈X.ex\/X.eQ.heap.objs.size<=b)/\(∀x c,X.env.cells.lookup x=some c->c≠b)/\∀p∈X.pn++pins,p.1≠b
theorem Inv.kT {X:Cx}{pins:BT}{Hh : St}{H H':Hp}{s:Shared}{b:Addr}(I:Inv X pins Hh H s)(hb:s.heap.objs.size<=b)(hn:H' b=none):iq X pins H' b:=by
 refine⟨hn,Iv (HQ I.lt hb),I.Gh hb,.inr (Hu I.sz hb),λ x c e z=>?_,λ p hp z=>?_⟩
 ·obtain⟨v,q⟩:=I.cell x c e;exact absurd (HQ q.lt (by rw[z];exact hb)) (HG _)
 ·exact absurd (HQ (Hq (I.pin p hp).1) (by rw[z];exact hb)) (HG _)
structure Turn (P:Program) (w:World) (K:Hl) (tg:Expr) (J:It) (fp:List Addr) (it:Addr) (tn:Nat->Heap->Prop):Prop where
 mem:it∈fp
 obj:∀i h,tn i h->∀b∈fp,∃o,h.get? b=some o/\∀v,o.data≠.cell v
 keep:∀i h h',tn i h->(∀b∈fp,∀o,h.get? b=some o->h'.get? b=some o)->tn i h'
 item:∀(X:Cx),X.prog=P->X.w=w->X.K=K->X.calm=true->∀(i:Nat) (pins:BT) (s:Shared) (Hh : St) (H:Hp) (E:AT),Inv X pins Hh H s->(∀b∈fp,iq X pins H b)->tn i s.heap->J.go i H ->
  wpAny (model P w) X.A (pyNext (.ref it)) (λ r s1=>∃u,r=some u /\
   wpAny (model P w) X.A (letOwnedTupleGo tg (.ref it) u) (λ _ s2=>∃x H',Inv X pins Hh H' s2/\RelV x u/\J.sf i H x H'/\tn (i+1) s2.heap/\∀b∈fp,H' b=none) E s1) E s
 done:∀(X:Cx),X.prog=P->X.w=w->X.K=K->X.calm=true->∀(i:Nat) (pins:BT) (s:Shared) (Hh : St) (H:Hp) (E:AT),Inv X pins Hh H s->(∀b∈fp,iq X pins H b)->tn i s.heap->J.stop i H ->
  wpAny (model P w) X.A (pyNext (.ref it)) (λ r s1=>r=none/\Inv X pins Hh H s1) E s
 self:∀(A:Around) (i:Nat) (s:Shared) (Q:AT) (E:AT),tn i s.heap->Q (.ref it) s->wpAny (model P w) A (pyIter (.ref it)) Q E s
abbrev TI:=St->Hp->(It->Hp->Prop)->Prop
def FT (X:Cx)(pins:BT)(Hh : St)(tg:Expr)(R:It->Hp->Prop)(itv:Value)(s2:Shared):Prop :=
 ∃(it:Addr) (fp:List Addr) (tn:Nat->Heap->Prop) (J:It) (H':Hp),itv=.ref it/\Inv X pins Hh H' s2/\Turn X.prog X.w X.K tg J fp it tn/\tn 0 s2.heap/\(∀b∈fp,iq X pins H' b)/\R J H'
def PI (X:Cx)(tg iter:Expr)(wi:TI):Prop :=
 ∀(pins:BT) (s:Shared) (Hh : St) (H:Hp) (R:It->Hp->Prop),Inv X pins Hh H s->wi Hh H R ->
  wpAny (model X.prog X.w) X.A (eval iter X.env) (λ v s1=>wpAny (model X.prog X.w) X.A (pyIter v) (FT X pins Hh tg R) X.xe s1) X.xe s
theorem uo {M:Model}{A:Around}{E:AT}{s:Shared}{tg:Expr}{it:Addr}{u:Value}{o:Obj}{n:String}{vs:Array Value}{Q:Unit->Shared->Prop}(ho:s.heap.get? it=some o)(hc:o.cls=.type n)(hd:o.data=.fields vs)
    (hn:["enumerate", "zip", "dict_itemiterator", "dict_reverseitemiterator", "odict_iterator", "itertools.zip_longest", "itertools.pairwise"].contains n=false) (hQ:Q () s):wpAny M A (letOwnedTupleGo tg (.ref it) u) Q E s:=by
  unfold letOwnedTupleGo;cases tg<;>first
    | exact J8 hQ
    | (cases u<;>first
        | exact J8 hQ
        | (refine J7 (wpAny_load ho ?_)
           rw[hc,hd];show wpAny M A (if (["enumerate", "zip", "dict_itemiterator", "dict_reverseitemiterator", "odict_iterator", "itertools.zip_longest", "itertools.pairwise"].contains n&&vs[0]? == some (rawInt _))=true then _ else _) Q E s;rw[if_neg (by intro h;rw[hn,Jz] at h;cases h)];exact J8 hQ))
def wL (K:Hl)(a:Addr):It :=
 ⟨λ i H=>∃xs x,aT K H a xs/\xs[i]?=some x,λ i H x H'=>H' = H/\∀xs,aT K H a xs->xs[i]?=some x,λ i H=>∃xs,aT K H a xs/\xs.length<=i⟩
def wM (K:Hl)(a:Addr):It :=
 ⟨λ i H=>∃xs x,au K H a xs/\xs[i]?=some x,λ i H x H'=>H' = H/\∀xs,au K H a xs->xs[i]?=some x,λ i H=>∃xs,au K H a xs/\xs.length<=i⟩
def uH (lo:Int)(n:Nat):It:=⟨λ i _=>i<n,λ i H x H'=>H' = H/\x=.int (lo+i),λ i _=>n<=i⟩
theorem yY {P:Program}{w:World}{K:Hl}{tg:Expr}(a it:Addr):Turn P w K tg (wL K a) [it] it (λ i h=>h.IsListIter it a i) where
 mem:=by simp
 obj:=λ i h st b hb=>by
  have e:b=it:=by simpa using hb
  subst e;obtain⟨o,e,c,d⟩:=st;exact⟨o,e,λ v z=>by rw[d] at z;cases z⟩
 keep:=λ i h h' st k=>st.at λ o e=>k it (by simp) o e
 item:=by
  intro X hP hw hK hc i pins s Hh H E I hf st hg;subst hP hw hK;obtain⟨xs,x,hq,hx⟩:=hg;obtain⟨its,rv,p,hz⟩:=I.list hq;obtain⟨u,hu,ru⟩:=rv.get hx;obtain⟨f0,f1,f2,f3,f4,f5⟩:=hf it (by simp);refine wpAny_pyNext_list_item st p.isList (x:=u) (by simpa using hu) λ h' st' sb=>?_
  have I1:Inv X pins Hh H { s with heap:=h' }:=I.turned (t':=s.toks) (λ b o hb e=>(sb.2 b hb).trans e) f0 f1 f3 f4 f5;obtain⟨o,e,c,d⟩:=id st';exact⟨u,rfl,uo (s:={ s with heap:=h' }) e c d ⋯ ⟨x,H,I1,ru,⟨rfl,λ ys hy=>by rw[I.oU hy hq];exact hx⟩,st',λ b hb=>(hf b hb).1⟩⟩
 done:=by
  intro X hP hw hK hc i pins s Hh H E I hf st hg;subst hP hw hK;obtain⟨xs,hq,hx⟩:=hg;obtain⟨its,rv,p,hz⟩:=I.list hq;obtain⟨f0,f1,f2,f3,f4,f5⟩:=hf it (by simp);have hl:=rv.length;exact wpAny_pyNext_list_end (I.ok.hd hc) st p.isList (by simp;omega) λ h' eb=>⟨rfl,I.turned (t':=s.toks) (λ b o hb e=>eb b o hb e) f0 f1 f3 f4 f5⟩
 self:=λ _ _ _ _ _ st h=>wpAny_pyIter_listiter st h
theorem xM {P:Program}{w:World}{K:Hl}{tg:Expr}(a it:Addr):Turn P w K tg (wM K a) [it] it (λ i h=>h.IsTupleIter it a i) where
 mem:=by simp
 obj:=λ i h st b hb=>by
  have e:b=it:=by simpa using hb
  subst e;obtain⟨o,e,c,d⟩:=st;exact⟨o,e,λ v z=>by rw[d] at z;cases z⟩
 keep:=λ i h h' st k=>st.at λ o e=>k it (by simp) o e
 item:=by
  intro X hP hw hK hc i pins s Hh H E I hf st hg;subst hP hw hK;obtain⟨xs,x,hq,hx⟩:=hg;obtain⟨its,rv,p,hz⟩:=I.tuple hq;obtain⟨u,hu,ru⟩:=rv.get hx;obtain⟨f0,f1,f2,f3,f4,f5⟩:=hf it (by simp);refine wpAny_pyNext_tuple_item st (show s.heap.IsTuple a its.toArray from p) (x:=u) (by simpa using hu) λ h' st' sb=>?_
  have I1:Inv X pins Hh H { s with heap:=h' }:=I.turned (t':=s.toks) (λ b o hb e=>(sb.2 b hb).trans e) f0 f1 f3 f4 f5;obtain⟨o,e,c,d⟩:=id st';exact⟨u,rfl,uo (s:={ s with heap:=h' }) e c d ⋯ ⟨x,H,I1,ru,⟨rfl,λ ys hy=>by rw[I.gS hy hq];exact hx⟩,st',λ b hb=>(hf b hb).1⟩⟩
 done:=by
  intro X hP hw hK hc i pins s Hh H E I hf st hg;subst hP hw hK;obtain⟨xs,hq,hx⟩:=hg;obtain⟨its,rv,p,hz⟩:=I.tuple hq;obtain⟨f0,f1,f2,f3,f4,f5⟩:=hf it (by simp);have hl:=rv.length;exact wpAny_pyNext_tuple_end (I.ok.hd hc) st (show s.heap.IsTuple a its.toArray from p) (by simp;omega) λ h' eb=>⟨rfl,I.turned (t':=s.toks) (λ b o hb e=>eb b o hb e) f0 f1 f3 f4 f5⟩
 self:=λ _ _ _ _ _ st h=>wpAny_pyIter_tupleiter st h
theorem xN {P:Program}{w:World}{K:Hl}{tg:Expr}(it:Addr)(lo:Int)(n:Nat):Turn P w K tg (uH lo n) [it] it (λ i h=>IsRangeIter h it (lo+(i:Nat)*1) ((n:Int)-(i:Nat)) 1) where
 mem:=by simp
 obj:=λ i h st b hb=>by
  have e:b=it:=by simpa using hb
  subst e;exact⟨_,st,λ v z=>by
   have z':Data.fields _=Data.cell v:=z;cases z'⟩
 keep:=λ i h h' st k=>k it (by simp) _ st
 item:=by
  intro X hP hw hK hc i pins s Hh H E I hf st hg;subst hP hw hK;obtain⟨f0,f1,f2,f3,f4,f5⟩:=hf it (by simp);have W:=Walks.range (prog:=X.prog) (w:=X.w) (I.ok.hd hc) it lo 1 n;refine W.item i s _ _ hg st λ v h' tk hv st' kk=>?_
  obtain⟨t,rfl⟩:=hv;have I1:Inv X pins Hh H { s with heap:=h',toks:=tk }:=I.turned (λ b o hb e=>kk b o (by simpa using hb) e) f0 f1 f3 f4 f5;refine⟨_,rfl,uo (s:={ s with heap:=h',toks:=tk }) (n := "range_iterator") st' rfl rfl ⋯ ⟨.int (lo+i),H,I1,⟨t,?_⟩,⟨rfl,rfl⟩,st',λ b hb=>(hf b hb).1⟩⟩;rw[Int.mul_one]
 done:=by
  intro X hP hw hK hc i pins s Hh H E I hf st hg;subst hP hw hK;obtain⟨f0,f1,f2,f3,f4,f5⟩:=hf it (by simp);exact wpAny_pyNext_range_end (I.ok.hd hc) st (by have:n<=i:=hg;omega) λ h' eb=>⟨rfl,I.turned (t':=s.toks) (λ b o hb e=>eb b o hb e) f0 f1 f3 f4 f5⟩
 self:=λ _ _ _ _ _ st h=>wpAny_pyIter_rangeiter st h
section
variable {X:Cx}{tg:Expr}
inductive AD (K:Hl) (R:(It->Hp->Prop)) (x:V) (H1:Hp):Prop
 | mk (a:_) (_:x=.ref a) (_:(∃xs,aT K H1 a xs)) (_:R (wL K a) H1)
def Fu (K:Hl)(tl:TE):TI:=λ Hh H R=>tl Hh H λ x H1=>AD K R x H1
inductive C4 (K:Hl) (R:(It->Hp->Prop)) (x:V) (H1:Hp):Prop
 | mk (a:_) (_:x=.ref a) (_:(∃xs,au K H1 a xs)) (_:R (wM K a) H1)
def Gv (K:Hl)(tl:TE):TI:=λ Hh H R=>tl Hh H λ x H1=>C4 K R x H1
theorem jc {l:Expr}{tl:TE}(hl:PE X l tl):PI X tg l (Fu X.K tl):=by
 intro pins s Hh H R I h;refine bx (hl pins s Hh H _ I h) λ v s1 ⟨x,H1,I1,r1,q1⟩=>?_
 obtain⟨a,e,⟨xs,hq⟩,q⟩:=q1;subst e;cases r1;obtain⟨its,rv,p,hz⟩:=I1.list hq;refine KG p.isList ?_;refine⟨s1.heap.objs.size,[s1.heap.objs.size],_,_,H1,rfl,I1.kept (t':=s1.toks) λ b o e=>Hr _ e,yY a _,⟨_,Hs _ rfl,rfl,rfl⟩,λ b hb=>?_,q⟩;have e:b=s1.heap.objs.size:=by simpa using hb
 subst e;exact I1.kT (Hn _) (I1.bc.fresh (Hn _))
theorem d5 {l:Expr}{tl:TE}(hl:PE X l tl):PI X tg l (Gv X.K tl):=by
 intro pins s Hh H R I h;refine bx (hl pins s Hh H _ I h) λ v s1 ⟨x,H1,I1,r1,q1⟩=>?_
 obtain⟨a,e,⟨xs,hq⟩,q⟩:=q1;subst e;cases r1;obtain⟨its,rv,p,hz⟩:=I1.tuple hq;refine Ko (show s1.heap.IsTuple a its.toArray from p) ?_;refine⟨s1.heap.objs.size,[s1.heap.objs.size],_,_,H1,rfl,I1.kept (t':=s1.toks) λ b o e=>Hr _ e,xM a _,⟨_,Hs _ rfl,rfl,rfl⟩,λ b hb=>?_,q⟩;have e:b=s1.heap.objs.size:=by simpa using hb
 subst e;exact I1.kT (Hn _) (I1.bc.fresh (Hn _))
theorem AE {pins:BT}{Hh : St}{H:Hp}{s:Shared}{R:It->Hp->Prop}{E:AT}{lo hi:Int}{t u v:Tok}{tk:Nat}(I:Inv X pins Hh H s)(h1:-(2 ^ 62)<=lo)(h2:lo<2 ^ 62)(h3:-(2 ^ 62)<=hi)(h4:hi<2 ^ 62)
  (q:R (uH lo (hi-lo).toNat) H):wpAny (model X.prog X.w) X.A (pyIter (.ref s.heap.objs.size)) (FT X pins Hh tg R) E { s with heap:=s.heap.push { cls:=.type "range",data:=.fields #[.int lo t,.int hi u,.int 1 v] },toks:=tk }:=by
 refine wpAny_pyIter_range (IsRange.new ..) (small_one h1 h2 h3 h4) ?_;have I1:Inv X pins Hh H { s with heap:=s.heap.push { cls:=.type "range",data:=.fields #[.int lo t,.int hi u,.int 1 v] },toks:=tk }:=I.kept λ b o e=>Hr _ e
 refine⟨(s.heap.push { cls:=.type "range",data:=.fields #[.int lo t,.int hi u,.int 1 v] }).objs.size,[(s.heap.push { cls:=.type "range",data:=.fields #[.int lo t,.int hi u,.int 1 v] }).objs.size],_,_,H,rfl,
  I1.kept (t':=tk) λ b o e=>Hr _ e,xN _ lo (hi-lo).toNat,?_,λ b hb=>?_,q⟩
 ·have e1:lo+((0:Nat):Int)*1=lo:=by simp
  have e2:(((hi-lo).toNat:Nat):Int)-((0:Nat):Int)=Builtin.Range.rangeSize lo hi 1:=by rw[rangeSize_one];split<;>omega
  show IsRangeIter _ _ (lo+((0:Nat):Int)*1) ((((hi-lo).toNat:Nat):Int)-((0:Nat):Int)) 1;rw[e1,e2];exact Hs _ rfl
 ·have e:b=(s.heap.push { cls:=.type "range",data:=.fields #[.int lo t,.int hi u,.int 1 v] }).objs.size:=by simpa using hb
  subst e;exact I1.kT (Hn _) (I1.bc.fresh (Hn _))
inductive AF (R:(It->Hp->Prop)) (vs:List V) (H1:Hp):Prop
 | mk (j:Int) (_:vs=[.int j]) (_:-(2 ^ 62)<=j) (_:j<2 ^ 62) (_:R (uH 0 j.toNat) H1)
def Fv (ta:TA):TI:=λ Hh H R=>ta Hh H λ vs H1=>AF R vs H1
theorem fC {a:Expr} {ta:TA} {p pos:Pos} (hg:Gl X "range") (hm:X.mg "range" = none) (ha:PA X [a] ta) (hs:starEach [a] X.env=[(false,eval a X.env)]:=by rfl):PI X tg (.Call (.Name "range" p) [a] [] pos) (Fv ta):=by
 intro pins s Hh H R I h;refine Call_ (iM I hg hm boot_range (PyProof.Rows.callWith_type1 (bx (ha pos pins s Hh H _ I h) λ us s1 ⟨vs,H1,I1,r1,q1⟩=>?_) hs rfl));obtain⟨j,e,q1,q2,q⟩:=q1;subst e;cases r1 with
 | cons r rr =>
  cases rr;obtain⟨t,rfl⟩:=r;exact call_range_1 (AE I1 ⋯ ⋯ q1 q2 (by simpa using q))
def Gw (wi:TI)(g:TG)(tb:TS):TS:=λ D Hh H=>wi Hh H λ J H1=>∃W:Nat->Nat->St->Hp->Prop,(∃m,W 0 m Hh H1)/\∀i m Hh H,W i m Hh H ->
 (J.stop i H/\D.nx Hh H)\/(J.go i H/\∃N:St->Hp->Prop,(∀σ' H',N σ' H'->∃m',m' < m/\W (i+1) m' σ' H')/\∀x H',J.sf i H x H'->g x Hh H' λ σ2 H2=>tb { D with nx:=N,ct:=N,bk:=D.nx } σ2 H2)
def my (fp:List Addr)(h:Heap):List (Addr×Obj):=fp.filterMap λ b=>(h.get? b).map λ o=>(b,o)
theorem i9 {fp:List Addr}{h:Heap}{b:Addr}{o:Obj}(hb:b∈fp)(e:h.get? b=some o):(b,o)∈my fp h:=IS.mpr ⟨b,hb,by rw[e];rfl⟩
theorem yZ {fp:List Addr}{h:Heap}{p:Addr×Obj}(hp:p∈my fp h):p.1∈fp/\h.get? p.1=some p.2:=by
 obtain⟨b,hb,e⟩:=IS.mp hp;cases q:h.get? b with
 | none=>rw[q] at e;cases e
 | some o =>
  rw[q] at e;have e':(b,o)=p:=HB.inj e;subst e';exact⟨hb,q⟩
theorem Inv.pinned {pins:BT}{Hh : St}{H:Hp}{s:Shared}{fp:List Addr}(I:Inv X pins Hh H s)(hf:∀b∈fp,iq X pins H b)(ho:∀b∈fp,∃o,s.heap.get? b=some o/\∀v,o.data≠.cell v):Inv X (pins++my fp s.heap) Hh H s :=
 I.wJ λ p hp=>(HI.mp hp).elim (λ z=>I.pin p (HS _ z)) λ z=>by
  obtain⟨hb,e⟩:=yZ z;obtain⟨f0,f1,f2,_⟩:=hf p.1 hb;obtain⟨o,e',d⟩:=ho p.1 hb;rw[e] at e';cases e';exact⟨e,f0,f1,f2,d⟩
theorem Inv.jj {pins pl:BT}{Hh : St}{H:Hp}{s:Shared}(I:Inv X (pins++pl) Hh H s):Inv X pins Hh H s:=I.wJ λ p hp=>I.pin p (HS _ (Ig _ hp))
theorem dJ {iter:Expr}{body:List Stmt}{wi:TI}{g:TG}{tb:TS}{pos:Pos}(hp:PassesOwn (model X.prog X.w) X.A X.env X.xe)(hc:X.calm=true)(hi:PI X tg iter wi)(hg:PG X tg g)(hb:ji X body tb)
  (hs:∀x,foldedSetIterable iter X.env x=pure x:=by intro _;rfl):PS X (.For tg iter body [] pos) (Gw wi g tb):=by
 intro pins s Hh H D I h;refine wpAny_For (bx (hi pins s Hh H _ I h) λ v s1 h1=>bx h1 λ itv s2 h2=>?_) hs;obtain⟨it,fp,tn,J,H2,e,I2,T,st2,f2,W,⟨m0,w0⟩,turn⟩:=h2;subst e;have stat:∀{H':Hp},(∀b∈fp,H' b=none)->∀b∈fp,iq X pins H' b:=λ hn b hb=>⟨hn b hb,(f2 b hb).2⟩
 refine codeAny_forLoop_any (λ n s'=>∃i σ' H',Inv X pins σ' H' s'/\tn i s'.heap/\(∀b∈fp,H' b=none)/\W i n σ' H') ?_ m0 ⟨0,Hh,H2,I2,st2,λ b hb=>(f2 b hb).1,w0⟩;rintro n s3 ⟨i,σ3,H3,I3,st3,fr3,w3⟩
 rcases turn i n σ3 H3 w3 with ⟨stop,qn⟩ | ⟨go,N,hN,step⟩
 ·refine Kn hp (bx (T.done X rfl rfl rfl hc i pins s3 σ3 H3 X.xe I3 (stat fr3) st3 stop) λ r s4 ⟨hr,I4⟩=>?_);subst hr;exact Ky ⟨σ3,H3,I4,qn⟩
 ·refine Kn hp (bx (T.item X rfl rfl rfl hc i pins s3 σ3 H3 X.xe I3 (stat fr3) st3 go) λ r s4 ⟨u,hr,h4⟩=>?_);subst hr;refine Kn hp (bx h4 λ _ s5 ⟨x,H5,I5,r5,y5,st5,fr5⟩=>?_);have I5':=I5.pinned (stat fr5) (T.obj _ _ st5);refine Kn hp (bx (hg _ s5 σ3 H5 x u _ I5' r5 (step x H5 y5)) λ _ s6 ⟨σ6,H6,I6,q6⟩=>?_);refine Kn hp (bx (hb _ s6 σ6 H6 _ I6 q6) λ f s7 q7=>?_);have again:∀{σ7:St} {H7:Hp},Inv X (pins++my fp s5.heap) σ7 H7 s7->N σ7 H7->∃m,m<n/\∃i σ' H',Inv X pins σ' H' s7/\tn i s7.heap/\(∀b∈fp,H' b=none)/\W i m σ' H':=λ {σ7 H7} I7 n7=>by
   obtain⟨m',hm,w7⟩:=hN σ7 H7 n7;refine⟨m',hm,i+1,σ7,H7,I7.jj,T.keep _ _ _ st5 λ b hb o e=>(I7.pin (b,o) (HS _ (HS _ (i9 hb e)))).1,λ b hb=>?_,w7⟩;obtain⟨o,e,d⟩:=T.obj _ _ st5 b hb;exact (I7.pin (b,o) (HS _ (HS _ (i9 hb e)))).2.1
  cases f with
  | next=>obtain⟨σ7,H7,I7,n7⟩:=q7;exact again I7 n7
  | cont=>obtain⟨σ7,H7,I7,n7⟩:=q7;exact again I7 n7
  | brk=>obtain⟨σ7,H7,I7,q7⟩:=q7;exact⟨σ7,H7,I7.jj,q7⟩
  | ret v=>obtain⟨x7,σ7,H7,I7,r7,q7⟩:=q7;exact⟨x7,σ7,H7,I7.jj,r7,q7⟩
end
theorem AG {K:Hl}{a:Addr}{xs:List V}{g:TG}{tb:TS}{D:Ends}{Hh : St}{H:Hp}(Pv:Nat->St->Hp->Prop)(h0:Pv 0 Hh H)(hl:∀i Hh H,i<=xs.length->Pv i Hh H->aT K H a xs)
  (hs:∀i x Hh H,xs[i]?=some x->Pv i Hh H->g x Hh H λ σ2 H2=>tb { D with nx:=Pv (i+1),ct:=Pv (i+1),bk:=D.nx } σ2 H2) (hd:∀Hh H,Pv xs.length Hh H->D.nx Hh H) :
  ∃W:Nat->Nat->St->Hp->Prop,(∃m,W 0 m Hh H)/\∀i m Hh H,W i m Hh H ->
   ((wL K a).stop i H/\D.nx Hh H)\/((wL K a).go i H/\∃N:St->Hp->Prop,(∀σ' H',N σ' H'->∃m',m' < m/\W (i+1) m' σ' H')/\∀x H',(wL K a).sf i H x H'->g x Hh H' λ σ2 H2=>tb { D with nx:=N,ct:=N,bk:=D.nx } σ2 H2):=by
 exists λ i m Hh H=>m=xs.length-i/\i<=xs.length/\Pv i Hh H,⟨xs.length,by simp,HL _,h0⟩;rintro i m Hh H ⟨rfl,hi,p⟩;have q:=hl i Hh H hi p;by_cases hlt:i<xs.length
 ·refine .inr ⟨⟨xs,xs[i],q,by simp[hlt]⟩,Pv (i+1),λ σ' H' p'=>⟨xs.length-(i+1),by omega,rfl,hlt,p'⟩,λ x H' y=>?_⟩;obtain⟨e,y⟩:=y;subst e;exact hs i x Hh _ (y xs q) p
 ·have e:i=xs.length:=by omega
  subst e;exact .inl ⟨⟨xs,q,Hn _⟩,hd Hh H p⟩
theorem fM {K:Hl}{a:Addr}{xs:List V}{g:TG}{tb:TS}{D:Ends}{Hh : St}{H:Hp}(Pv:Nat->St->Hp->Prop)(h0:Pv 0 Hh H)(hl:∀i Hh H,i<=xs.length->Pv i Hh H->au K H a xs)
  (hs:∀i x Hh H,xs[i]?=some x->Pv i Hh H->g x Hh H λ σ2 H2=>tb { D with nx:=Pv (i+1),ct:=Pv (i+1),bk:=D.nx } σ2 H2) (hd:∀Hh H,Pv xs.length Hh H->D.nx Hh H) :
  ∃W:Nat->Nat->St->Hp->Prop,(∃m,W 0 m Hh H)/\∀i m Hh H,W i m Hh H ->
   ((wM K a).stop i H/\D.nx Hh H)\/((wM K a).go i H/\∃N:St->Hp->Prop,(∀σ' H',N σ' H'->∃m',m' < m/\W (i+1) m' σ' H')/\∀x H',(wM K a).sf i H x H'->g x Hh H' λ σ2 H2=>tb { D with nx:=N,ct:=N,bk:=D.nx } σ2 H2):=by
 exists λ i m Hh H=>m=xs.length-i/\i<=xs.length/\Pv i Hh H,⟨xs.length,by simp,HL _,h0⟩;rintro i m Hh H ⟨rfl,hi,p⟩;have q:=hl i Hh H hi p;by_cases hlt:i<xs.length
 ·refine .inr ⟨⟨xs,xs[i],q,by simp[hlt]⟩,Pv (i+1),λ σ' H' p'=>⟨xs.length-(i+1),by omega,rfl,hlt,p'⟩,λ x H' y=>?_⟩;obtain⟨e,y⟩:=y;subst e;exact hs i x Hh _ (y xs q) p
 ·have e:i=xs.length:=by omega
  subst e;exact .inl ⟨⟨xs,q,Hn _⟩,hd Hh H p⟩
theorem jS {lo:Int}{n:Nat}{g:TG}{tb:TS}{D:Ends}{Hh : St}{H:Hp}(Pv:Nat->St->Hp->Prop)(h0:Pv 0 Hh H)
  (hs:∀i Hh H,i<n->Pv i Hh H->g (.int (lo+i)) Hh H λ σ2 H2=>tb { D with nx:=Pv (i+1),ct:=Pv (i+1),bk:=D.nx } σ2 H2) (hd:∀Hh H,Pv n Hh H->D.nx Hh H) :
  ∃W:Nat->Nat->St->Hp->Prop,(∃m,W 0 m Hh H)/\∀i m Hh H,W i m Hh H ->
   ((uH lo n).stop i H/\D.nx Hh H)\/((uH lo n).go i H/\∃N:St->Hp->Prop,(∀σ' H',N σ' H'->∃m',m' < m/\W (i+1) m' σ' H')/\∀x H',(uH lo n).sf i H x H'->g x Hh H' λ σ2 H2=>tb { D with nx:=N,ct:=N,bk:=D.nx } σ2 H2):=by
 exists λ i m Hh H=>m=n-i/\i<=n/\Pv i Hh H,⟨n,by simp,HL _,h0⟩;rintro i m Hh H ⟨rfl,hi,p⟩;by_cases hlt:i<n
 ·refine .inr ⟨hlt,Pv (i+1),λ σ' H' p'=>⟨n-(i+1),by omega,rfl,hlt,p'⟩,λ x H' y=>?_⟩;obtain⟨e,y⟩:=y;subst e y;exact hs i Hh _ hlt p
 ·have e:i=n:=by omega
  subst e;exact .inl ⟨Hn _,hd Hh H p⟩
abbrev R2:=V->V->Hp->VK->Prop
def eJ (X:Cx)(f:Value->Value->Sem Value)(r:R2):Prop :=
 ∀(pins:BT) (s:Shared) (Hh : St) (H:Hp) (x y:V) (v u:Value) (Q:VK),Inv X pins Hh H s->RelV x v->RelV y u->r x y H Q ->
  wpAny (model X.prog X.w) X.A (f v u) (EP X pins Hh Q) X.xe s
def Ei (X:Cx)(f:Value->Sem Value)(r:V->Hp->VK->Prop):Prop :=
 ∀(pins:BT) (s:Shared) (Hh : St) (H:Hp) (x:V) (v:Value) (Q:VK),Inv X pins Hh H s->RelV x v->r x H Q ->
  wpAny (model X.prog X.w) X.A (f v) (EP X pins Hh Q) X.xe s
def eR (X:Cx)(f:Value)(r:List V->Hp->VK->Prop):Prop :=
 ∀(pins:BT) (s:Shared) (Hh : St) (H:Hp) (xs:List V) (us:List Value) (Q:VK),Inv X pins Hh H s->Vals xs us->r xs H Q ->
  wpAny (model X.prog X.w) X.A (call f us) (EP X pins Hh Q) X.xe s
def Gx (X:Cx)(r:V->Hp->(Bool->Hp->Prop)->Prop):Prop :=
 ∀(pins:BT) (s:Shared) (Hh : St) (H:Hp) (x:V) (v:Value) (Q:Bool->Hp->Prop),Inv X pins Hh H s->RelV x v->r x H Q ->
  wpAny (model X.prog X.w) X.A (truthy v) (TP X pins Hh Q) X.xe s
def Cy (r:R2)(ta tb:TE):TE:=λ Hh H Q=>ta Hh H λ x H1=>tb Hh H1 λ y H2=>r x y H2 Q
def GZ (r:V->Hp->VK->Prop)(ta:TE):TE:=λ Hh H Q=>ta Hh H λ x H1=>r x H1 Q
inductive rI (C:Int->Int->Prop) (g:Int->Int->V) (x:V) (y:V) (H:Hp) (Q:VK):Prop
 | mk (i j:_) (_:x=.int i) (_:y=.int j) (_:C i j) (_:Q (g i j) H)
inductive sg (g:Int->Int->V) (x:V) (y:V) (H:Hp) (Q:VK):Prop
 | mk (i j:_) (_:x=.int i) (_:y=.int j) (_:Q (g i j) H)
inductive rU (g:Int->V) (x:V) (H:Hp) (Q:VK):Prop
 | mk (i:_) (_:x=.int i) (_:Q (g i) H)
section
variable {X:Cx}{a b c:Expr}{ta tb tc:TE}{pos:Pos}
theorem AH (ha:PE X a ta)(hb:PE X b tb){pins:BT}{s:Shared}{Hh : St}{H:Hp}{R:V->V->Hp->Prop}(I:Inv X pins Hh H s)
  (h:ta Hh H λ x H1=>tb Hh H1 λ y H2=>R x y H2) {Q:AT} {f:Value->Value->Sem Value}
  (hf:∀v u s2 x y H2,Inv X pins Hh H2 s2->RelV x v->RelV y u->R x y H2->wpAny (model X.prog X.w) X.A (f v u) Q X.xe s2) :
  wpAny (model X.prog X.w) X.A (eval a X.env) (λ v s₁=>wpAny (model X.prog X.w) X.A (eval b X.env) (λ u s₂=>wpAny (model X.prog X.w) X.A (f v u) Q X.xe s₂) X.xe s₁) X.xe s:=by
 refine bx (ha pins s Hh H _ I h) λ v s1 ⟨x,H1,I1,r1,q1⟩=>?_
 refine bx (hb pins s1 Hh H1 _ I1 q1) λ u s2 ⟨y,H2,I2,r2,q2⟩=>?_
 exact hf v u s2 x y H2 I2 r1 r2 q2
theorem bh {op:Operator}{r:R2}(ho:eJ X (binaryOp op) r)(ha:PE X a ta)(hb:PE X b tb):PE X (.BinOp a op b pos) (Cy r ta tb):=by
 intro pins s Hh H Q I h;exact wpAny_BinOp (AH ha hb I h λ v u s2 x y H2 I2 rx ry q=>ho pins s2 Hh H2 x y v u Q I2 rx ry q)
theorem xO {op:UnaryOp}{r:V->Hp->VK->Prop}(ho:Ei X (unaryOp op) r)(ha:PE X a ta):PE X (.UnaryOp op a pos) (GZ r ta):=by
 intro pins s Hh H Q I h;exact UnaryOp_ (bx (ha pins s Hh H _ I h) λ v s1 ⟨x,H1,I1,r1,q1⟩=>ho pins s1 Hh H1 x v Q I1 r1 q1)
theorem wN {f:Value->Value->Sem Value}{C:Int->Int->Prop}{g:Int->Int->Int}
  (rule:∀(i j:Int) (t u:Tok) (s:Shared) (Q:AT) (E:AT),C i j->Q (.int (g i j) s.toks) { s with toks:=s.toks+1 }->wpAny (model X.prog X.w) X.A (f (.int i t) (.int j u)) Q E s) :
  eJ X f (rI C λ i j=>.int (g i j)):=by
 intro pins s Hh H x y v u Q I rx ry h;obtain⟨i,j,rfl,rfl,hc,q⟩:=h;obtain⟨t,rfl⟩:=rx;obtain⟨t',rfl⟩:=ry;exact rule i j t t' s _ _ hc ⟨.int (g i j),H,I.tok _,⟨_,rfl⟩,q⟩
theorem Ej {f:Value->Value->Sem Value}{g:Int->Int->Int}
  (rule:∀(i j:Int) (t u:Tok) (s:Shared) (Q:AT) (E:AT),Q (.int (g i j) s.toks) { s with toks:=s.toks+1 }->wpAny (model X.prog X.w) X.A (f (.int i t) (.int j u)) Q E s) :
  eJ X f (sg λ i j=>.int (g i j)):=by
 intro pins s Hh H x y v u Q I rx ry h;obtain⟨i,j,rfl,rfl,q⟩:=h;obtain⟨t,rfl⟩:=rx;obtain⟨t',rfl⟩:=ry;exact rule i j t t' s _ _ ⟨.int (g i j),H,I.tok _,⟨_,rfl⟩,q⟩
theorem xP {f:Value->Value->Sem Value}{g:Int->Int->Bool}
  (rule:∀(i j:Int) (t u:Tok) (s:Shared) (Q:AT) (E:AT),Q (.bool (g i j)) s->wpAny (model X.prog X.w) X.A (f (.int i t) (.int j u)) Q E s) :
  eJ X f (sg λ i j=>.bl (g i j)):=by
 intro pins s Hh H x y v u Q I rx ry h;obtain⟨i,j,rfl,rfl,q⟩:=h;obtain⟨t,rfl⟩:=rx;obtain⟨t',rfl⟩:=ry;exact rule i j t t' s _ _ ⟨.bl (g i j),H,I,rfl,q⟩
def Gy (i j:Int):Prop:=0<j/\j<1073741824
def Gz (i j:Int):Prop:=0<=j/\j<=1000000/\i.natAbs<2 ^ 64
def AI (i j:Int):Prop:=(-(2 ^ 64)<i/\i<2 ^ 64)\/(-(2 ^ 64)<j/\j<2 ^ 64)
theorem AI.ok {i j:Int}(h:AI i j):IntMulOk i j:=by
 rcases h with ⟨h1,h2⟩ | ⟨h1,h2⟩
 ·exact .of_left (intBits_le_64 h1 h2)
 ·exact .of_right (intBits_le_64 h1 h2)
theorem cK:eJ X (binaryOp .Add) (sg λ i j=>.int (i+j)):=Ej λ _ _ _ _ _ _ _ q=>add_int q
theorem eM:eJ X (binaryOp .Sub) (sg λ i j=>.int (i-j)):=Ej λ _ _ _ _ _ _ _ q=>sub_int q
theorem iP:eJ X (binaryOp .Mult) (rI AI λ i j=>.int (i*j)):=wN λ _ _ _ _ _ _ _ hc q=>mul_int q hc.ok
theorem wO:eJ X (binaryOp .FloorDiv) (rI Gy λ i j=>.int (i / j)):=wN λ i j _ _ _ _ _ hc q=>by
 have h1:(0:Int)<j:=hc.1;have h2:j<1073741824:=hc.2;exact floordiv_int ⋯ (by rw[Int.fdiv_eq_ediv_of_nonneg i ⋯];exact q) (.inl (PyProof.noPylong_small ⋯))
theorem jm:eJ X (binaryOp .Mod) (rI (λ _ j=>0<j) λ i j=>.int (i % j)):=wN λ i j _ _ _ _ _ hc q=>by
 have h1:(0:Int)<j:=hc;exact mod_int' ⋯ (by rw[Int.fmod_eq_emod_of_nonneg i ⋯];exact q)
theorem mz:eJ X (binaryOp .Pow) (rI Gz λ i j=>.int (i ^ j.toNat)):=wN λ _ _ _ _ _ _ _ hc q=>pow_int_small hc.1 hc.2.1 hc.2.2 q
theorem G0 {f:Value->Sem Value}{g:Int->Int}
  (rule:∀(i:Int) (t:Tok) (s:Shared) (Q:AT) (E:AT),Q (.int (g i) s.toks) { s with toks:=s.toks+1 }->wpAny (model X.prog X.w) X.A (f (.int i t)) Q E s) :
  Ei X f (rU λ i=>.int (g i)):=by
 intro pins s Hh H x v Q I rx h;obtain⟨i,rfl,q⟩:=h;obtain⟨t,rfl⟩:=rx;exact rule i t s _ _ ⟨.int (g i),H,I.tok _,⟨_,rfl⟩,q⟩
theorem uI:Ei X (unaryOp .USub) (rU λ i=>.int (-i)):=G0 λ _ _ _ _ _ q=>neg_int q
end
def AJ:V->V->Bool
 | .aZ,.aZ=>true | .aZ,.int _=>true | .int _,.aZ=>true | .aZ,.bl _=>true | .bl _,.aZ=>true | .aZ,.str _=>true | .str _,.aZ=>true
 | .int _,.int _=>true | .bl _,.bl _=>true | .str _,.str _=>true | .jg _,.jg _=>true
 | .int _,.str _=>true | .str _,.int _=>true | .bl _,.str _=>true | .str _,.bl _=>true
 | _,_=>false
def G1:R2:=λ x y H Q=>AJ x y=true/\Q (.bl (decide (x=y))) H
def G3:R2:=λ x y H Q=>AJ x y=true/\Q (.bl (!decide (x=y))) H
theorem wQ {i j:Int}:decide (V.int i=V.int j)=(i == j):=by
 rw[Jh];simp
theorem y3 {i j:Bool}:decide (V.bl i=V.bl j)=(i == j):=by
 rw[Jh];simp
theorem wR {i j:Str}:decide (V.str i=V.str j)=(i == j):=by
 rw[Jh];simp
theorem wU {i j:Array UInt8}:decide (V.jg i=V.jg j)=(i.toList == j.toList):=by
 rw[Jh];cases i;cases j;simp
section
variable {X:Cx}{a b c:Expr}{ta tb tc:TE}{pos:Pos}
theorem cx {pins:BT}{Hh : St}{H:Hp}{s:Shared}{Q:VK}{k k':Bool}(I:Inv X pins Hh H s)(q:Q (.bl k) H)(e:k=k'):EP X pins Hh Q (.bool k') s:=by
 subst e;exact⟨.bl k,H,I,rfl,q⟩
theorem bC:eJ X (compareOp .Eq) G1:=by
 intro pins s Hh H x y v u Q I rx ry h;obtain⟨hs,q⟩:=h;cases x with
 | aZ =>
  cases rx;cases y with
  | aZ=>cases ry;exact PySem.EqNone.eq_none_none (cx I q (by simp))
  | bl j=>cases ry;exact PySem.EqNone.eq_none_bool (cx I q (by simp))
  | int j=>obtain⟨t',rfl⟩:=ry;exact PySem.EqNone.eq_none_int (cx I q (by simp))
  | str j=>obtain⟨t',rfl⟩:=ry;exact PySem.EqNone.eq_none_str (cx I q (by simp))
  | _=>exact absurd (show false=true from hs) HK
 | bl i =>
  cases rx;cases y with
  | aZ=>cases ry;exact PySem.EqNone.eq_bool_none (cx I q (by simp))
  | bl j=>cases ry;exact eq_bool (cx I q y3)
  | str j=>obtain⟨t',rfl⟩:=ry;exact PySem.EqMixed.eq_bool_str (cx I q (by simp))
  | _=>exact absurd (show false=true from hs) HK
 | int i =>
  obtain⟨t,rfl⟩:=rx;cases y with
  | aZ=>cases ry;exact PySem.EqNone.eq_int_none (cx I q (by simp))
  | int j=>obtain⟨t',rfl⟩:=ry;exact eq_int (cx I q wQ)
  | str j=>obtain⟨t',rfl⟩:=ry;exact PySem.EqMixed.eq_int_str (cx I q (by simp))
  | _=>exact absurd (show false=true from hs) HK
 | str i =>
  obtain⟨t,rfl⟩:=rx;cases y with
  | aZ=>cases ry;exact PySem.EqNone.eq_str_none (cx I q (by simp))
  | bl j=>cases ry;exact PySem.EqMixed.eq_str_bool (cx I q (by simp))
  | int j=>obtain⟨t',rfl⟩:=ry;exact PySem.EqMixed.eq_str_int (cx I q (by simp))
  | str j=>obtain⟨t',rfl⟩:=ry;exact eq_str (cx I q wR)
  | _=>exact absurd (show false=true from hs) HK
 | jg i =>
  obtain⟨t,rfl⟩:=rx;cases y with
  | jg j=>obtain⟨t',rfl⟩:=ry;exact PySem.W.eq_bytes (cx I q wU)
  | _=>exact absurd (show false=true from hs) HK
 | _=>cases y<;>exact absurd (show false=true from hs) HK
theorem jT:eJ X (compareOp .NotEq) G3:=by
 intro pins s Hh H x y v u Q I rx ry h;obtain⟨hs,q⟩:=h;cases x with
 | aZ =>
  cases rx;cases y with
  | aZ=>cases ry;exact PySem.EqNone.ne_none_none (cx I q (by simp))
  | bl j=>cases ry;exact PySem.EqNone.ne_none_bool (cx I q (by simp))
  | int j=>obtain⟨t',rfl⟩:=ry;exact PySem.EqNone.ne_none_int (cx I q (by simp))
  | str j=>obtain⟨t',rfl⟩:=ry;exact PySem.EqNone.ne_none_str (cx I q (by simp))
  | _=>exact absurd (show false=true from hs) HK
 | bl i =>
  cases rx;cases y with
  | aZ=>cases ry;exact PySem.EqNone.ne_bool_none (cx I q (by simp))
  | bl j=>cases ry;exact ne_bool (cx I q (congrArg not y3))
  | str j=>obtain⟨t',rfl⟩:=ry;exact PySem.EqMixed.ne_bool_str (cx I q (by simp))
  | _=>exact absurd (show false=true from hs) HK
 | int i =>
  obtain⟨t,rfl⟩:=rx;cases y with
  | aZ=>cases ry;exact PySem.EqNone.ne_int_none (cx I q (by simp))
  | int j=>obtain⟨t',rfl⟩:=ry;exact ne_int (cx I q (congrArg not wQ))
  | str j=>obtain⟨t',rfl⟩:=ry;exact PySem.EqMixed.ne_int_str (cx I q (by simp))
  | _=>exact absurd (show false=true from hs) HK
 | str i =>
  obtain⟨t,rfl⟩:=rx;cases y with
  | aZ=>cases ry;exact PySem.EqNone.ne_str_none (cx I q (by simp))
  | bl j=>cases ry;exact PySem.EqMixed.ne_str_bool (cx I q (by simp))
  | int j=>obtain⟨t',rfl⟩:=ry;exact PySem.EqMixed.ne_str_int (cx I q (by simp))
  | str j=>obtain⟨t',rfl⟩:=ry;exact ne_str (cx I q (congrArg not wR))
  | _=>exact absurd (show false=true from hs) HK
 | jg i =>
  obtain⟨t,rfl⟩:=rx;cases y with
  | jg j=>obtain⟨t',rfl⟩:=ry;exact PySem.W.ne_bytes (cx I q (congrArg not wU))
  | _=>exact absurd (show false=true from hs) HK
 | _=>cases y<;>exact absurd (show false=true from hs) HK
theorem fP:eJ X (compareOp .Lt) (sg λ i j=>.bl (decide (i<j))):=xP λ _ _ _ _ _ _ _ q=>lt_int q
theorem nG:eJ X (compareOp .LtE) (sg λ i j=>.bl (decide (i<=j))):=xP λ _ _ _ _ _ _ _ q=>le_int q
theorem iJ:eJ X (compareOp .Gt) (sg λ i j=>.bl (decide (j<i))):=xP λ _ _ _ _ _ _ _ q=>gt_int q
theorem Cz:eJ X (compareOp .GtE) (sg λ i j=>.bl (decide (j<=i))):=xP λ _ _ _ _ _ _ _ q=>ge_int q
theorem aG (b:Expr){op:CmpOp}(h:op≠.In:=by decide)(h2:op≠.NotIn:=by decide):behindInMarks op b=false:=by
 have e1:(op == CmpOp.In)=false:=by cases op<;>first | rfl | exact absurd rfl h
 have e2:(op == CmpOp.NotIn)=false:=by cases op<;>first | rfl | exact absurd rfl h2
 cases b<;>simp[behindInMarks,e1,e2]
theorem dP {op:CmpOp}{r:R2}(ho:eJ X (compareOp op) r)(ha:PE X a ta)(hb:PE X b tb)(hm:behindInMarks op b=false):PE X (.Compare a [op] [b] pos) (Cy r ta tb):=by
 intro pins s Hh H Q I h;exact wpAny_Compare1 (AH ha hb I h λ v u s2 x y H2 I2 rx ry q=>ho pins s2 Hh H2 x y v u Q I2 rx ry q) hm
inductive AK (Q:(Bool->Hp->Prop)) (x:V) (H':Hp):Prop
 | mk (k:_) (_:x=.bl k) (_:Q k H')
def Fw (t:TE):TT:=λ Hh H Q=>t Hh H λ x H'=>AK Q x H'
theorem aB {op:CmpOp}{r:R2}(ho:eJ X (compareOp op) r)(ha:PE X a ta)(hb:PE X b tb)(hm:behindInMarks op b=false):PT X (.Compare a [op] [b] pos) (Fw (Cy r ta tb)):=by
 intro pins s Hh H Q I h;refine wpAny_isTrue_Compare1 (bx (ha pins s Hh H _ I h) λ v s1 ⟨x,H1,I1,r1,q1⟩=>bx (hb pins s1 Hh H1 _ I1 q1) λ u s2 ⟨y,H2,I2,r2,q2⟩ =>
  bx (ho pins s2 Hh H2 x y v u _ I2 r1 r2 q2) λ c s3 ⟨z,H3,I3,r3,k,e,q3⟩=>?_) hm
 subst e;cases r3;exact Kj ⟨H3,I3,q3⟩
inductive y4 (r':R2) (tc:TE) (Hh : St) (Q:VK) (y:V) (z:V) (H3:Hp):Prop
 | mk (k:_) (_:z=.bl k) (_:(if k=true then tc Hh H3 λ w' H4=>r' y w' H4 Q else Q (.bl false) H3))
def Ek (r r':R2)(ta tb tc:TE):TE:=λ Hh H Q=>ta Hh H λ x H1=>tb Hh H1 λ y H2=>r x y H2 λ z H3=>y4 r' tc Hh Q y z H3
theorem AL {op op':CmpOp}{r r':R2}(ho:eJ X (compareOp op) r)(ho':eJ X (compareOp op') r')(ha:PE X a ta)(hb:PE X b tb)(hc:PE X c tc)
  (hm:lastMarks [op,op'] [b,c]=false:=by with_unfolding_all rfl):PE X (.Compare a [op,op'] [b,c] pos) (Ek r r' ta tb tc):=by
 intro pins s Hh H Q I h;refine Compare_chain (bx (ha pins s Hh H _ I h) λ v s1 ⟨x,H1,I1,r1,q1⟩=>chain_link (bx (hb pins s1 Hh H1 _ I1 q1) λ u s2 ⟨y,H2,I2,r2,q2⟩ =>
  bx (ho pins s2 Hh H2 x y v u _ I2 r1 r2 q2) λ d s3 ⟨z,H3,I3,r3,k,e,q3⟩=>?_)) hm
 subst e;cases r3;refine Kj ?_;cases k with
 | false=>exact ite_ff ⟨.bl false,H3,I3,rfl,q3⟩
 | true=>exact ite_tt (chain_last (bx (hc pins s3 Hh H3 _ I3 q3) λ w' s4 ⟨z',H4,I4,r4,q4⟩=>ho' pins s4 Hh H4 y z' u w' Q I4 r2 r4 q4))
def El (K:Hl)(x:V)(H:Hp)(k:Bool):Prop :=
 match x with
 | .aZ=>k=false
 | .bl b=>k=b
 | .int i=>k=(i != 0)
 | .str y=>y.length<=sizeLine/\k=((y.length:Int) != 0)
 | .jg y=>y.size<=sizeLine/\k=((y.size:Int) != 0)
 | .ref p=>(∃xs,aT K H p xs/\k = !xs.isEmpty)\/(∃xs,au K H p xs/\k = !xs.isEmpty)\/∃kvs,H p=some (.dK kvs)/\k = !kvs.isEmpty
 | _=>False
theorem xQ {κ : Type}{kvs:List (κ×V)}{vs:List (κ×Value)}(r:KV kvs vs):(!vs.isEmpty) = !kvs.isEmpty:=by
 cases r<;>rfl
theorem pL {xs:List V}{its:List Value}(r:Vals xs its):(!its.toArray.isEmpty) = !xs.isEmpty:=by
 cases r<;>simp
theorem jn:(sizeLine:Nat)<2 ^ 63:=by rw[sizeLine_eq];decide
theorem Em:Gx X (λ x H Q=>∃k,El X.K x H k/\Q k H):=by
 intro pins s Hh H x v Q I rx h;obtain⟨k,e,q⟩:=h;have hl:=jn;have hs:sizeLine=16777216:=sizeLine_eq;cases x with
 | aZ =>
  cases rx;have e':k=false:=e;subst e';exact truthy_none ⟨H,I,q⟩
 | bl b =>
  cases rx;have e':k=b:=e;subst e';exact Kj ⟨H,I,q⟩
 | int i =>
  obtain⟨t,rfl⟩:=rx;have e':k=(i != 0):=e;subst e';exact PySem.P.truthy_int ⟨H,I,q⟩
 | str y =>
  obtain⟨t,rfl⟩:=rx;obtain⟨hy,e'⟩:y.length<=sizeLine/\k=((y.length:Int) != 0):=e;subst e';exact PySem.P.truthy_str ⋯ ⟨H,I.tok _,q⟩
 | jg y =>
  obtain⟨t,rfl⟩:=rx;obtain⟨hy,e'⟩:y.size<=sizeLine/\k=((y.size:Int) != 0):=e;subst e';exact PySem.W.truthy_bytes ⋯ ⟨H,I.tok _,q⟩
 | ref p =>
  cases rx;have e':(∃xs,aT X.K H p xs/\k = !xs.isEmpty)\/(∃xs,au X.K H p xs/\k = !xs.isEmpty)\/∃kvs,H p=some (.dK kvs)/\k = !kvs.isEmpty:=e
  rcases e' with ⟨xs,hx,e'⟩ | ⟨xs,hx,e'⟩ | ⟨kvs,hx,e'⟩
  ·subst e';obtain⟨its,r,pl,hz⟩:=I.list hx;have hlen:=r.length;exact wpAny_truthy_list pl.isList (by simp only[HF];omega) ⟨H,I.tok _,by rw[pL r];exact q⟩
  ·subst e';obtain⟨its,r,pl,hz⟩:=I.tuple hx;have hlen:=r.length;exact truthy_tuple pl (by simp only[HF];omega) ⟨H,I.tok _,by rw[pL r];exact q⟩
  ·subst e';obtain⟨hz,hS,vs,r,m⟩:kvs.length<=sizeLine/\(p == sysModules)=false/\∃vs,KV kvs vs/\s.heap.DictOf (ba X.prog X.w) p vs:=I.bc p _ hx;have hlen:kvs.length=vs.length:=Paired.length r;exact wpAny_truthy_dict hS m ⋯ ⟨H,I.tok _,by rw[xQ r];exact q⟩
 | _=>exact (show False from e).elim
theorem AM (ha:PE X a ta)(he:∀whole,isTrue a X.env whole=(do let v <-whole;standAt a.pos;holding [v] (truthy v))) :
  PT X a (λ Hh H Q=>ta Hh H λ x H'=>∃k,El X.K x H' k/\Q k H'):=by
 intro pins s Hh H Q I h;exact isTrue_plain (bx (ha pins s Hh H _ I h) λ v s1 ⟨x,H1,I1,r1,q1⟩=>Em pins s1 Hh H1 x v Q I1 r1 q1) (he _)
theorem vals1 {x:V}{us:List Value}(r:Vals [x] us):∃u,us=[u]/\RelV x u:=by
 cases r with
 | cons r1 r2=>cases r2;exact⟨_,rfl,r1⟩
theorem vals2 {x y:V}{us:List Value}(r:Vals [x,y] us):∃u w',us=[u,w']/\RelV x u/\RelV y w':=by
 cases r with
 | cons r1 r2 =>
  cases r2 with
  | cons r3 r4=>cases r4;exact⟨_,_,rfl,r1,r3⟩
theorem y6 (hc:X.calm=true):eR X (.builtin "max") (λ xs H Q=>∃i j,xs=[.int i,.int j]/\Q (.int (if j > i then j else i)) H):=by
 intro pins s Hh H xs us Q I r h;obtain⟨i,j,rfl,q⟩:=h;obtain⟨u,w',rfl,⟨t,rfl⟩,⟨t',rfl⟩⟩:=vals2 r;refine max_two_ints (I.ok.hd hc) λ h' tk k=>⟨_,H,I.kept k,?_,q⟩
 by_cases hj:j > i
 ·rw[if_pos hj,if_pos hj];exact⟨_,rfl⟩
 ·rw[if_neg hj,if_neg hj];exact⟨_,rfl⟩
theorem mB (hc:X.calm=true):eR X (.builtin "min") (λ xs H Q=>∃i j,xs=[.int i,.int j]/\Q (.int (if j<i then j else i)) H):=by
 intro pins s Hh H xs us Q I r h;obtain⟨i,j,rfl,q⟩:=h;obtain⟨u,w',rfl,⟨t,rfl⟩,⟨t',rfl⟩⟩:=vals2 r;refine min_two_ints (I.ok.hd hc) λ h' tk k=>⟨_,H,I.kept k,?_,q⟩
 by_cases hj:j<i
 ·rw[if_pos hj,if_pos hj];exact⟨_,rfl⟩
 ·rw[if_neg hj,if_neg hj];exact⟨_,rfl⟩
theorem fU:eR X (.type "int") (λ xs H Q=>(∃i,xs=[.int i]/\Q (.int i) H)\/∃k,xs=[.bl k]/\Q (.int (if k then 1 else 0)) H):=by
 intro pins s Hh H xs us Q I r h
 rcases h with ⟨i,rfl,q⟩ | ⟨k,rfl,q⟩
 ·obtain⟨u,rfl,t,rfl⟩:=vals1 r;exact call_int_int ⟨.int i,H,I,⟨_,rfl⟩,q⟩
 ·obtain⟨u,rfl,r1⟩:=vals1 r;cases r1;exact call_int_bool ⟨.int (if k then 1 else 0),H,I.tok _,⟨_,rfl⟩,q⟩
end
structure oV (h:Heap) (x dx C:Addr) (mA:Ch):Prop where
 obj:h.get? x=some (IK C dx)
 ns:h.Ns1 dx mA
 ne:dx≠x
theorem y7 {h:Heap}{dx:Addr}{mA:Ch}(n:h.Ns1 dx mA):∃od,h.get? dx=some od/\∀name,JA name od=some (mA name):=by
 obtain⟨o,es,ep,ho,hd,hk,_,hm⟩:=n;refine⟨o,ho,λ name=>?_⟩;have e:=hm name;unfold nsFind findBy at e;rw[<-Array.find?_toList] at e;unfold JA;rw[hd];dsimp only;split
 ·rename_i y q
  rw[q] at e;exact congrArg some e
 ·rename_i q
  rw[q] at e;have a:es.toList.any (·.refKey)=false:=by
   rw[List.any_eq_false];intro y hy;obtain⟨z,t,hkey⟩:=hk y (Array.mem_toList_iff.mp hy);simp[DictEntry.refKey,hkey]
  have a':¬es.toList.any (·.refKey)=true:=by rw[a];exact HK
  rw[if_neg a'];exact congrArg some e
theorem oV.look {h:Heap}{x dx C:Addr}{mA:Ch}(I:oV h x dx C mA):∃od,PySem.W.InstAt h x (IK C dx) C (some od)/\∀name,JA name od=some (mA name) :=
 let ⟨od,ho,hl⟩:=y7 I.ns
 ⟨od,⟨I.obj,rfl,rfl,ho⟩,hl⟩
section
variable {prog:Program}{w:World}{A:Around}{E:AT}{s:Shared}{K:Hl}{x dx C f:Addr}{mA:Ch}{name:Str}{v:Value}
theorem get_map {expr:Bool}{Q:AT}(X:K.In s.heap)(I:oV s.heap x dx C mA)(hg:Ji K C name=true)(hh:JB K C=true)
  (ha:Ic K (.ref C) name=some none) (hv:mA name=some v) (hv':PySem.W.handedIn v=true) (h:Q v { s with toks:=s.toks+1 }) :
  wpAny (model prog w) A (getAttr (.ref x) name expr) Q E s:=by
 obtain⟨od,J,hl⟩:=I.look;exact PySem.W.get_value X J (JZ hg).1 (PySem.W.findObj_own hh ha rfl (by rw[hl,hv])) hv' h
theorem AN {pl:Sem Bool}{Q:Value×List Value->Shared->Prop}(X:K.In s.heap)(I:oV s.heap x dx C mA)(hg:Ji K C name=true)
  (hf:Ic K (.ref C) name=some (some (.ref f))) (ht:Jj K (.ref f)=true) (hv:mA name=none) (h:Q (.ref f,[.ref x]) s) :
  wpAny (model prog w) A (getMethod (.ref x) name pl) Q E s:=by
 obtain⟨od,J,hl⟩:=I.look;exact PySem.W.method_fn X J (JZ hg).1 (JZ hg).2 hf (beq_iff_eq.mp ht) (by show (JA name od).map (·.isSome)=some false;rw[hl,hv];rfl) h
theorem C5 {ns:List Str}{Q:Unit->Shared->Prop}(X:K.In s.heap)(I:oV s.heap x dx C mA)
  (hs:Ic K (.ref C) "__setattr__" = some (some (.builtin "object.__setattr__"))) (hp:J0 K C=true) (ht:PySem.W.takerIn K C name=some none) (hh:JB K C=true)
  (hw:PySem.Within mA ns) (hsz:ns.length<=sizeLine)
  (h:∀h',oV h' x dx C (λ y=>if y=name then some v else mA y)->HR dx s.heap h'->Q () { s with heap:=h',toks:=s.toks+2 }) :
  wpAny (model prog w) A (setAttr (.ref x) name v) Q E s:=by
 obtain⟨od,J,hl⟩:=I.look;refine PySem.W.set_plain X J hs (PySem.W.osa_open (s:={ s with toks:=s.toks+1 }) (r:=none) X J hp ht λ b=>?_);obtain⟨cd,hc,hd'⟩:=PySem.W.any_some hh;have hx:s.heap.get? x=some ⟨.ref C,some dx,.plain,#[]⟩:=I.obj;refine J7 (J8 (J7 (J7 (wpAny_loadPart hx (J7 (PySem.W.Looks.here (s:={ s with toks:=s.toks+1 }) (PySem.W.looks_clsIn X hc) ?_))))));rw[hd'];refine J8 (a:=some dx) (J7 (J8 (J7 ?_)));refine wpAny_nsSet1 (s:={ s with toks:=s.toks+1 }) I.ns λ h' hn2 hs2=>?_
 obtain⟨oD,esD,epD,hoD,hdD,hcD⟩:=hn2.count (PySem.Within.cons name v hw);refine J7 (wpAny_lookBehind hoD (by rw[hdD];exact pastItsLine_dict (Hu hcD (by rw[HX];omega))) ?_);exact J8 (h _ ⟨(hs2.2 _ (Ne.symm I.ne)).trans I.obj,hn2,I.ne⟩ hs2)
theorem AO {R:Result->Shared->Prop}{vs:List Value}{kw:List (Str×Value)}(X:K.In s.heap)(hm:JC K C=true)
  (hi:Ic K (.ref C) "__init__" = some (some (.ref f))) (hf:PySem.W.typeIn K (.ref f)=some (.type "function"))
  (h:codeAny (model prog w) (A.under (.builtin "type.__call__" ⟨.ref C::vs,kw⟩)) (.call (.ref f) ⟨.ref (s.heap.objs.size+1)::vs,kw⟩) (PySem.W.InitBack (s.heap.objs.size+1) R)
   { s with heap:=(s.heap.push IC).push (IK C s.heap.objs.size) }) :
  codeAny (model prog w) A (.call (.ref C) ⟨vs,kw⟩) R s:=by
 obtain⟨hh,g,d,t,os⟩:=s;exact PySem.W.make_core (PySem.W.makes_of X hm) (PySem.W.looks_findIn X hi) (λ self=>PySem.W.bind_fn X self hf) (.inl rfl) h
end
def eZ (f:Str)(v:V):List (Str×V)->List (Str×V)
 | []=>[(f,v)]
 | (g,x)::r=>if g=f then (g,v)::r else (g,x)::eZ f v r
theorem n9 (f g:Str)(v:V):∀fs:List (Str×V),(eZ f v fs).lookup g=if g=f then some v else fs.lookup g
 | []=>by
  show Im g [(f,v)]=_;by_cases h:g=f
  ·have hb:(g == f)=true:=beq_iff_eq.mpr h;simp only[Im,hb,if_pos h]
  ·have hb:(g == f)=false:=beq_eq_false_iff_ne.mpr h;simp only[Im,hb,if_neg h]
 | (k,x)::r=>by
  have ih:=n9 f g v r;rw[show eZ f v ((k,x)::r)=(if k=f then (k,v)::r else (k,x)::eZ f v r) from rfl];by_cases hk:k=f
  ·rw[if_pos hk];by_cases h:g=k
   ·have hb:(g == k)=true:=beq_iff_eq.mpr h;simp only[Im,hb,if_pos (h.trans hk)]
   ·have hb:(g == k)=false:=beq_eq_false_iff_ne.mpr h;simp only[Im,hb,if_neg (λ e:g=f=>h (e.trans hk.symm))]
  ·rw[if_neg hk];by_cases h:g=k
   ·have hb:(g == k)=true:=beq_iff_eq.mpr h;simp only[Im,hb,if_neg (λ e:g=f=>hk (h.symm.trans e))]
   ·have hb:(g == k)=false:=beq_eq_false_iff_ne.mpr h;simp only[Im,hb];exact ih
theorem mC (f:Str)(v:V):∀fs:List (Str×V),f∈(eZ f v fs).map (·.1)/\∀g,g∈fs.map (·.1)->g∈(eZ f v fs).map (·.1)
 | []=>⟨by simp[eZ],λ g h=>by simp at h⟩
 | (k,x)::r=>by
  obtain⟨i1,i2⟩:=mC f v r;rw[show eZ f v ((k,x)::r)=(if k=f then (k,v)::r else (k,x)::eZ f v r) from rfl];by_cases hk:k=f
  ·rw[if_pos hk];subst hk;exact⟨by simp,λ g h=>by simpa using h⟩
  ·rw[if_neg hk];refine⟨?_,λ g h=>?_⟩
   ·rw[HN];exact Hx _ i1
   ·rw[HN] at h ⊢
    rcases Ho.mp h with e | e
    ·exact Ho.mpr (.inl e)
    ·exact Hx _ (i2 g e)
theorem oa (f:Str)(v:V):∀fs:List (Str×V),(eZ f v fs).length<=fs.length+1
 | []=>by simp[eZ]
 | (k,x)::r=>by
  have ih:=oa f v r;rw[show eZ f v ((k,x)::r)=(if k=f then (k,v)::r else (k,x)::eZ f v r) from rfl];by_cases hk:k=f
  ·rw[if_pos hk,HX,HX];omega
  ·rw[if_neg hk,HX,HX];omega
theorem fq.some_of {v:V}{o:Option Value}(r:fq (some v) o):∃u,o=some u/\RelV v u:=by
 cases o with
 | none=>exact (show False from r).elim
 | some u=>exact⟨u,rfl,r⟩
theorem fq.none_of {o:Option Value}(r:fq none o):o=none:=by
 cases o with
 | none=>rfl
 | some u=>exact (show False from r).elim
theorem y8 {v:V}{u:Value}(r:RelV v u):PySem.W.handedIn u=true:=by
 cases v with
 | aZ=>cases (show u=Value.none from r);rfl
 | bl b=>cases (show u=Value.bool b from r);rfl
 | int i=>obtain⟨t,e⟩:=(show ∃t,u=Value.int i t from r);cases e;rfl
 | str x=>obtain⟨t,e⟩:=(show ∃t,u=Value.str x t from r);cases e;rfl
 | jg b=>obtain⟨t,e⟩:=(show ∃t,u=Value.bytes b t from r);cases e;rfl
 | sd b=>obtain⟨t,e⟩:=(show ∃t,u=Value.float b t from r);cases e;rfl
 | ref a=>cases (show u=Value.ref a from r);rfl
 | ty n=>cases (show u=Value.type n from r);rfl
section
variable {P:Program}{w:World}{H H':Hp}{h h':Heap}{a C dx:Addr}{fs fs':List (Str×V)}
theorem nH (bc:eS P w H h)(e:H a=some (.ins C dx fs)):∃mA,oV h a dx C mA/\(∀f,fq (fs.lookup f) (mA f))/\PySem.Within mA (fs.map (·.1))/\fs.length<=1000/\H dx=some (.own a):=by
 obtain⟨d,z,ne,ob,mA,n,r,q⟩:=(show b0 P w H h a (.ins C dx fs) from bc a _ e);exact⟨mA,⟨ob,n,ne⟩,r,q,z,d⟩
end
structure lW (K:Hl) (C:Addr):Prop where
 pg:Ji K C Str.empty=true
 hd:JB K C=true
 po:J0 K C=true
 sa:Ic K (.ref C) "__setattr__" = some (some (.builtin "object.__setattr__"))
theorem lW.get {K:Hl}{C:Addr}(c:lW K C)(f:Str):Ji K C f=true:=c.pg
def iQ (K:Hl)(C:Addr)(f:Str):Prop:=Ic K (.ref C) f=some none
theorem iQ.Fx {K:Hl}{C:Addr}{f:Str}(n:iQ K C f):PySem.W.takerIn K C f=some none:=by
 unfold PySem.W.takerIn;rw[show Ic K (.ref C) f=some none from n];rfl
structure Meth (K:Hl) (C:Addr) (m:Str) (f:Addr):Prop where
 at_:Ic K (.ref C) m=some (some (.ref f))
 fn:Jj K (.ref f)=true
 kp:Iw K (.ref f)=true
section
variable {X:Cx}{pins:BT}{Hh : St}{H:Hp}{s:Shared}{a C dx:Addr}{fs:List (Str×V)}{f:Str}{v:V}{A:Around}{E:AT}
theorem xR {b:Bool}{Q:AT}(I:Inv X pins Hh H s)(e:H a=some (.ins C dx fs))(c:lW X.K C)(n:iQ X.K C f)(l:fs.lookup f=some v)
  (h:∀u s',Inv X pins Hh H s'->RelV v u->Q u s'):wpAny (model X.prog X.w) A (getAttr (.ref a) f b) Q E s:=by
 obtain⟨mA,O,r,_,_,_⟩:=nH I.bc e;obtain⟨u,hu,ru⟩:=fq.some_of (v:=v) (o:=mA f) (by rw[<-l];exact r f);exact get_map I.ft O (c.get f) c.hd n hu (y8 ru) (h u _ (I.tok _) ru)
theorem xS {m:Str}{g:Addr}{pl:Sem Bool}{Q:Value×List Value->Shared->Prop}(I:Inv X pins Hh H s)(e:H a=some (.ins C dx fs))(c:lW X.K C)(k:Meth X.K C m g)(l:fs.lookup m=none)
  (h:Q (.ref g,[.ref a]) s):wpAny (model X.prog X.w) A (getMethod (.ref a) m pl) Q E s:=by
 obtain⟨mA,O,r,_,_,_⟩:=nH I.bc e;have hn:mA m=none:=fq.none_of (by rw[<-l];exact r m);exact AN I.ft O (c.get m) k.at_ k.fn hn h
theorem xT {y:V}{u:Value}{Q:Unit->Shared->Prop}(I:Inv X pins Hh H s)(e:H a=some (.ins C dx fs))(c:lW X.K C)(n:iQ X.K C f)(hl:fs.length<1000)(ry:RelV y u)
  (h:∀s',Inv X pins Hh (upd H a (.ins C dx (eZ f y fs))) s'->Q () s'):wpAny (model X.prog X.w) A (setAttr (.ref a) f u) Q E s:=by
 obtain⟨mA,O,r,wi,_,ho⟩:=nH I.bc e;have hz:(fs.map (·.1)).length<=sizeLine:=by rw[Hk,sizeLine_eq];omega
 refine C5 I.ft O c.sa c.po n.Fx c.hd wi hz λ h' O' sb=>h _ ?_
 have hd:∃o,h'.get? dx=some o:=let ⟨o,_,_,e',_⟩:=O'.ns;⟨o,e'⟩
 refine I.write (x:=a) (e:=dx) (by rw[e];exact True.intro) (.inr ho) (λ b q hb z=>(sb.2 b hb).trans z) hd ?_;refine⟨by rw[av O.ne];exact ho,?_,O.ne,O'.obj,_,O'.ns,λ g=>?_,λ g hg=>?_⟩
 ·have:=oa f y fs;omega
 ·show fq ((eZ f y fs).lookup g) (if g=f then some u else mA g);rw[n9];by_cases q:g=f
  ·rw[if_pos q,if_pos q];exact ry
  ·rw[if_neg q,if_neg q];exact r g
 ·by_cases q:g=f
  ·rw[q];exact (mC f y fs).1
  ·refine (mC f y fs).2 g (wi g λ z=>hg ?_);show (if g=f then some u else mA g)=none;rw[if_neg q];exact z
theorem Inv.made (I:Inv X pins Hh H s):Inv X pins Hh (upd (upd H s.heap.objs.size (.own (s.heap.objs.size+1))) (s.heap.objs.size+1) (.ins C s.heap.objs.size []))
  { s with heap:=(s.heap.push IC).push (IK C s.heap.objs.size) }:=by
 have e1:(s.heap.push IC).get? s.heap.objs.size=some IC:=Hs s.heap rfl;have e2:((s.heap.push IC).push (IK C s.heap.objs.size)).get? (s.heap.objs.size+1)=some (IK C s.heap.objs.size):=by
  have:=Hs (s.heap.push IC) (o:=IK C s.heap.objs.size) rfl
  rwa [HJ] at this
 have e3:(s.heap.push IC).Ns s.heap.objs.size (λ _=>none):=⟨IC,#[],_,e1,rfl,(λ e he=>absurd he (by simp)),λ _=>rfl⟩;have I1:=I.laid (a:=s.heap.objs.size) (o:=.own (s.heap.objs.size+1)) (h':=s.heap.push IC) (t':=s.toks) (λ b u q=>Hr _ q) (Hn _) ⟨_,e1⟩;refine I1.laid (a:=s.heap.objs.size+1) (o:=.ins C s.heap.objs.size []) (t':=s.toks) (λ b u q=>Hr _ q) (Nat.le_of_eq (HJ _ _)) ?_;have ne:s.heap.objs.size≠s.heap.objs.size+1:=Hw (Iy _);refine⟨by rw[av ne,af],HL _,ne,e2,λ _=>none,(Heap.Ns1.of_empty e3).at λ o q=>Hr _ q,λ _=>True.intro,λ y hy=>absurd rfl hy⟩
theorem C6 {prog:Program}{w:World}{env:Env}{e:Expr}{f:Str}{pos:Pos}{s:Shared}{Q:AT}(hb:attributeBase e f env (eval e env)=eval e env)
  (h:wpAny (model prog w) A (eval e env) (λ o s₁=>wpAny (model prog w) A (getAttr o f true) Q E s₁) E s):wpAny (model prog w) A (eval (.Attribute e f pos) env) Q E s :=
 Attribute_any_ h (by rw[arm_eval_Attribute,hb])
end
inductive C7 (K:Hl) (f:Str) (Q:VK) (x:V) (H1:Hp):Prop
 | mk (a C dx fs v:_) (_:x=.ref a) (_:H1 a=some (.ins C dx fs)) (_:lW K C) (_:iQ K C f) (_:fs.lookup f=some v) (_:Q v H1)
def En (K:Hl)(ta:TE)(f:Str):TE:=λ Hh H Q=>ta Hh H λ x H1=>C7 K f Q x H1
inductive C8 (K:Hl) (f:Str) (D:Ends) (Hh : St) (y:V) (x:V) (H2:Hp):Prop
 | mk (a C dx fs:_) (_:x=.ref a) (_:H2 a=some (.ins C dx fs)) (_:lW K C) (_:iQ K C f) (_:fs.length<1000) (_:D.nx Hh (upd H2 a (.ins C dx (eZ f y fs))))
def GB (K:Hl)(ta tv:TE)(f:Str):TS:=λ D Hh H=>tv Hh H λ y H1=>ta Hh H1 λ x H2=>C8 K f D Hh y x H2
section
variable {X:Cx}{o e value:Expr}{f:Str}{pos pos' tpos:Pos}{ta tv:TE}
theorem hV (he:PE X e ta)(hb:attributeBase e f X.env (eval e X.env)=eval e X.env):PE X (.Attribute e f pos) (En X.K ta f):=by
 intro pins s Hh H Q I h;refine C6 hb (bx (he pins s Hh H _ I h) λ u s1 ⟨x,H1,I1,rx,a,C,dx,fs,v,ex,ea,c,n,l,q⟩=>?_);subst ex;obtain rfl:u=Value.ref a:=rx;exact xR I1 ea c n l λ u' s2 I2 ru=>⟨v,H1,I2,ru,q⟩
theorem y9 (ha:PE X o ta)(hv:PE X value tv)(hs:swapsWith value (some (.Attribute o f pos')) pos.line X.env=pure false):PS X (.Assign [.Attribute o f pos'] value pos) (GB X.K ta tv f):=by
 intro pins s Hh H D I h;refine plainObj_wpAny_Assign_Attribute (bx (hv pins s Hh H _ I h) λ u s1 ⟨y,H1,I1,ry,q⟩=>bx (ha pins s1 Hh H1 _ I1 q) λ ov s2 ⟨x,H2,I2,rx,a,C,dx,fs,ex,ea,c,n,l,q2⟩=>?_) hs;subst ex;obtain rfl:ov=Value.ref a:=rx;exact xT I2 ea c n l ry λ s3 I3=>⟨Hh,_,I3,q2⟩
end
section
variable {X:Cx}{pins:BT}{Hh : St}{H:Hp}{s:Shared}{A:Around}{E:AT}{Q:AT}{c:Value}{b:Bool}
inductive hX (K:Hl) (H:Hp):V->Value->Prop where
 | aZ:hX K H .aZ (.type "NoneType")
 | bl (x:Bool):hX K H (.bl x) (.type "bool")
 | int (i:Int):hX K H (.int i) (.type "int")
 | str (x:Str):hX K H (.str x) (.type "str")
 | sd (x:UInt64):hX K H (.sd x) (.type "float")
 | lst {a:Addr} {xs:List V} (e:H a=some (.lst xs)):hX K H (.ref a) (.type "list")
 | eC {a:Addr} {o:Obj} {xs:List V} (e:H a=some (.eC o (.lst xs))):hX K H (.ref a) (.type "list")
 | tup {a:Addr} {xs:List V} (e:H a=some (.tup xs)):hX K H (.ref a) (.type "tuple")
 | dK {a:Addr} {kvs:List (Key×V)} (e:H a=some (.dK kvs)):hX K H (.ref a) (.type "dict")
 | dT {a:Addr} {kvs:List (List Key×V)} (e:H a=some (.dT kvs)):hX K H (.ref a) (.type "dict")
 | ins {a C dx:Addr} {fs:List (Str×V)} (e:H a=some (.ins C dx fs)) (cl:lW K C) (ha:Ic K (.ref C) "__class__" = some (some (.builtin "object.__class__")))
   (hn:PySem.W.specialIn K (.builtin "object.__class__") "__get__" = some (some (.builtin "getset_descriptor.__get__"))) (htk:PySem.W.takesIn K (.builtin "object.__class__")=some true)
   (hm:PySem.W.mroIn K C (.type "object")=some true):hX K H (.ref a) (.ref C)
theorem za {x:V}{u t:Value}(I:Inv X pins Hh H s)(rx:RelV x u)(ty:hX X.K H x t)(e:PySem.W.kitOne X.K t c=some b)(h:∀tk,Q (.bool b) { s with toks:=tk }) :
  wpAny (model X.prog X.w) A (call (.builtin "isinstance") [u,c]) Q E s:=by
 cases ty with
 | aZ=>cases (show u=Value.none from rx);exact Io PySem.W.kitx_none I.ft True.intro e (λ z=>nomatch z) h
 | bl y=>cases (show u=Value.bool y from rx);exact Io PySem.W.kitx_bool I.ft True.intro e (λ z=>nomatch z) h
 | int i=>obtain⟨t,q⟩:=(show ∃t,u=Value.int i t from rx);cases q;exact Io PySem.W.kitx_int I.ft True.intro e (λ z=>nomatch z) h
 | str y=>obtain⟨t,q⟩:=(show ∃t,u=Value.str y t from rx);cases q;exact Io PySem.W.kitx_str I.ft True.intro e (λ z=>nomatch z) h
 | sd y=>obtain⟨t,q⟩:=(show ∃t,u=Value.float y t from rx);cases q;exact Io PySem.W.kitx_float I.ft True.intro e (λ z=>nomatch z) h
 | @lst a xs ea =>
  cases (show u=Value.ref a from rx);obtain⟨_,_,n,_,h1⟩:=(show b0 X.prog X.w H s.heap a (.lst xs) from I.bc a _ ea);exact Io PySem.W.kitx_list I.ft ⟨_,h1,rfl⟩ e (λ z=>nomatch z) h
 | @eC a ob xs ea =>
  cases (show u=Value.ref a from rx);obtain⟨_,_,_,n,_,h1⟩:=(show b0 X.prog X.w H s.heap a (.eC ob (.lst xs)) from I.bc a _ ea);exact Io PySem.W.kitx_list I.ft ⟨_,h1,rfl⟩ e (λ z=>nomatch z) h
 | @tup a xs ea =>
  cases (show u=Value.ref a from rx);obtain⟨_,_,_,p⟩:=(show b0 X.prog X.w H s.heap a (.tup xs) from I.bc a _ ea);obtain⟨o,h1,h2,_⟩:=p;exact Io PySem.W.kitx_tuple I.ft ⟨o,h1,h2⟩ e (λ z=>nomatch z) h
 | @dK a kvs ea =>
  cases (show u=Value.ref a from rx);obtain⟨_,_,vs,_,p⟩:=(show b0 X.prog X.w H s.heap a (.dK kvs) from I.bc a _ ea);obtain⟨o,es,ep,h1,h2,_⟩:=p;exact Io PySem.W.kitx_dict I.ft ⟨o,h1,h2.1⟩ e (λ z=>nomatch z) h
 | @dT a kvs ea =>
  cases (show u=Value.ref a from rx);obtain⟨_,_,xs,_,o,es,ep,h1,h2,_⟩:=(show b0 X.prog X.w H s.heap a (.dT kvs) from I.bc a _ ea);exact Io PySem.W.kitx_dict I.ft ⟨o,h1,h2.1⟩ e (λ z=>nomatch z) h
 | @ins a C dx fs ea cl ha hn htk hm =>
  cases (show u=Value.ref a from rx);obtain⟨mA,O,_⟩:=nH I.bc ea;obtain⟨od,J,_⟩:=O.look;exact Io (PySem.W.kitx_own (cl.get _) cl.hd ha hn htk hm) I.ft J e (λ z=>nomatch z) h
end
structure dz (k:Nat) (A:Around):Prop where
 hd:A.handled=none
 dp:A.depth+3*k+5<recursionLimit
 un:A.units+16*k+200<cLine
theorem dz.mono {j k:Nat}{A:Around}(r:dz k A)(h:j<=k):dz j A:=⟨r.hd,by have:=r.dp;omega,by have:=r.un;omega⟩
theorem dz.deeper {k:Nat}{A:Around}(r:dz (k+1) A)(env:Env):dz k (A.deeper env) :=
 ⟨r.hd,by have:=r.dp;show A.depth+1+3*k+5<_;omega,by have:=r.un;show A.units+3+16*k+200<_;omega⟩
theorem xU {A:Around} {C:Addr} {us:List Value} {kw:List (Str×Value)}:(A.under (.builtin "type.__call__" ⟨.ref C::us,kw⟩)).depth=A.depth+1:=by
 first | rfl | simp[Around.under,Code.weight,Code.isCreation,Code.isGuard,Code.isCaller,Code.frames,Code.isFrame,guardIds]
theorem xV {A:Around} {C:Addr} {us:List Value} {kw:List (Str×Value)}:(A.under (.builtin "type.__call__" ⟨.ref C::us,kw⟩)).units=A.units+1:=by
 first | rfl | simp[Around.under,Code.cUnits,Code.frames,Code.isFrame]
theorem dz.make {k:Nat} {A:Around} (r:dz (k+1) A) (C:Addr) (us:List Value) (kw:List (Str×Value)):dz k (A.under (.builtin "type.__call__" ⟨.ref C::us,kw⟩)) :=
 ⟨r.hd,by have:=r.dp;rw[xU];omega,by have:=r.un;rw[xV];omega⟩
theorem dz.depth {k:Nat}{A:Around}(r:dz k A):A.depth<recursionLimit:=by have:=r.dp;omega
theorem dz.units {k:Nat}{A:Around}(r:dz k A):A.units+64<cLine:=by have:=r.un;omega
def xW:TA:=λ _ H Q=>Q [] H
def uq (ta:TE)(tr:TA):TA:=λ Hh H Q=>ta Hh H λ x H1=>tr Hh H1 λ xs H2=>Q (x::xs) H2
section
variable {X:Cx}{e:Expr}{es:List Expr}{te:TE}{t:TA}{pos:Pos}
theorem ae:PA X [] xW:=λ _ _ _ _ H Q I h=>Calls.spliced_nil ⟨[],H,I,.nil,h⟩
theorem aa (ha:PE X e te)(hr:PA X es t)(hs:starEach (e::es) X.env=(false,eval e X.env)::starEach es X.env:=by rfl):PA X (e::es) (uq te t):=by
 intro pos pins s Hh H Q I h;rw[hs];show wpAny _ _ (spliced ((false,eval e X.env)::backTo pos (starEach es X.env))) _ _ s;refine Calls.spliced_cons (bx (ha pins s Hh H _ I h) λ u s1 ⟨x,H1,I1,r1,q1⟩=>?_);exact bx (hr pos pins s1 Hh H1 _ I1 q1) λ us s2 ⟨xs,H2,I2,r2,q2⟩=>⟨x::xs,H2,I2,.cons r1 r2,q2⟩
def Eo (t:TA):TE:=λ Hh H Q=>t Hh H λ xs H1=>xs.length<=sizeLine/\∀p,H1 p=none->Q (.ref p) (upd H1 p (.tup xs))
def GC (t:TA):TE:=λ Hh H Q=>t Hh H λ xs H1=>xs.length<=sizeLine/\∀p,H1 p=none->Q (.ref p) (upd H1 p (.lst xs))
theorem aX {x1}(h:PA X es t):PE X (.Tuple es x1 pos) (Eo t):=by
 intro pins s Hh H Q I hq;refine wpAny_Tuple_spliced (bx (h pos pins s Hh H _ I hq) λ us s1 ⟨xs,H1,I1,r,z,q⟩=>⟨by rw[<-r.length];exact z,?_⟩);have hf:H1 s1.heap.objs.size=none:=I1.bc.fresh (Hn _);refine⟨.ref s1.heap.objs.size,upd H1 s1.heap.objs.size (.tup xs),I1.laid (t':=s1.toks) (λ b u e=>Hr _ e) (Hn _) ?_,rfl,q _ hf⟩;exact⟨z,us,r,⟨_,Hs _ rfl,rfl,_,rfl,rfl⟩⟩
theorem cU (h:PA X es t):PE X (.List es pos) (GC t):=by
 intro pins s Hh H Q I hq;refine wpAny_List_spliced (bx (h pos pins s Hh H _ I hq) λ us s1 ⟨xs,H1,I1,r,z,q⟩=>⟨by rw[<-r.length];exact z,?_⟩);have hf:H1 s1.heap.objs.size=none:=I1.bc.fresh (Hn _);refine⟨.ref s1.heap.objs.size,upd H1 s1.heap.objs.size (.lst xs),I1.laid (t':=s1.toks) (λ b u e=>Hr _ e) (Hn _) ?_,rfl,q _ hf⟩;exact⟨z,us,0,r,Hs _ rfl⟩
end
abbrev Sp:=List V->Hp->VK->XK->Prop
abbrev mD:=List Env->Hp->Shared->XK->Value->Shared->Prop
structure oW (P:Program) (w:World) (K:Hl) (mg:Ch) (base:Heap) (A:Around) (outer:List Env) (s:Shared) (H:Hp):Prop where
 frames:A.frames=some outer
 mod:Mod K mg base
 bs:∀b o,base.get? b=some o->s.heap.get? b=some o/\H b=none
 pJ:base.objs.size<=s.heap.objs.size
 iX:s.heap.FunFrames base outer
 uA:∀b∈mx outer,H b=none
 bc:eS P w H s.heap
 bare:AllBare s.gens
def CE (outer:List Env)(P:Program)(w:World)(H:Hp)(s:Shared)(Q:VK)(u:Value)(s':Shared):Prop :=
 ∃v H',s'.os=s.os/\AllBare s'.gens/\Un (mx outer) [] H H' s.heap s'.heap/\eS P w H' s'.heap/\RelV v u/\Q v H'
def CR (CX:mD)(outer:List Env)(P:Program)(w:World)(H:Hp)(s:Shared)(Q:VK)(E:XK)(r:Result)(s':Shared):Prop :=
 match r with
 | .ok (.ret u)=>CE outer P w H s Q u s'
 | .ok _=>False
 | .error e=>CX outer H s E e s'
structure bA (P:Program) (w:World) (K:Hl) (mg:Ch) (base:Heap) (CX:mD) (k:Nat) (f:Addr) (fd:FuncData) (ps:List Str) (sp:Sp):Prop where
 len:∀vs H Q E,sp vs H Q E->vs.length=ps.length
 run:∀(A:Around) (outer:List Env) (s:Shared) (H:Hp) (args:Args) (us:List Value) (vs:List V) (Q:VK) (E:XK),dz k A->oW P w K mg base A outer s H->BindsTo s fd args (ps.zip us)->Vals vs us->sp vs H Q E ->
  codeAny (model P w) A (.call (.ref f) args) (CR CX outer P w H s Q E) s
theorem oW.make {P:Program}{w:World}{K:Hl}{mg:Ch}{base:Heap}{A:Around}{outer:List Env}{s:Shared}{H:Hp}(e:oW P w K mg base A outer s H)(C:Addr)(us:List Value)(kw:List (Str×Value)) :
  oW P w K mg base (A.under (.builtin "type.__call__" ⟨.ref C::us,kw⟩)) outer s H:=⟨by first | exact e.frames | (simpa [Around.under,Code.envs,Code.isFrame,pushEnvs] using e.frames),e.mod,e.bs,e.pJ,e.iX,e.uA,e.bc,e.bare⟩
section
variable {X:Cx}{pins:BT}{Hh : St}{H:Hp}{s s':Shared}
theorem Inv.Ep (I:Inv X pins Hh H s):oW X.prog X.w X.K X.mg X.base X.A X.stack s H :=
 ⟨I.ok.frames,I.ok.mod,I.bs,Hu I.ok.pJ I.sz,I.stack,I.wI,I.bc,I.bare⟩
theorem Inv.after {Q:VK}{u:Value}(I:Inv X pins Hh H s)(h:CE X.stack X.prog X.w H s Q u s'):EP X pins Hh Q u s':=by
 obtain⟨v,H',os,bare,un,bc,r,q⟩:=h;obtain⟨hh,g,d,t,os'⟩:=s';obtain rfl:os' = s.os:=os;exact⟨v,H',I.call (h':=hh) (g':=g) (d':=d) (t':=t) (ch:=[]) un bc bare (λ b z=>absurd z (by simp)),r,q⟩
end
def xX (sp:Sp)(dvs:List V)(E:XK)(t:TA):TE:=λ Hh H Q=>t Hh H λ vs H1=>sp (vs++dvs) H1 Q E
inductive AQ (C:Addr) (m:Str) (sp:Sp) (dvs:List V) (E:XK) (t:TA) (Hh : St) (Q:VK) (x:V) (H1:Hp):Prop
 | mk (a dx fs:_) (_:x=.ref a) (_:H1 a=some (.ins C dx fs)) (_:fs.lookup m=none) (_:t Hh H1 λ vs H2=>sp (x::(vs++dvs)) H2 Q E)
def CA (C:Addr)(m:Str)(sp:Sp)(dvs:List V)(E:XK)(ta:TE)(t:TA):TE:=λ Hh H Q=>ta Hh H λ x H1=>AQ C m sp dvs E t Hh Q x H1
def CB (C:Addr)(sp:Sp)(dvs:List V)(E:XK)(t:TA):TE:=λ Hh H Q=>t Hh H λ vs H1=>∀x dx,H1 x=none->H1 dx=none->dx≠x ->
 sp (.ref x::(vs++dvs)) (upd (upd H1 dx (.own x)) x (.ins C dx [])) (λ v H2=>v=.aZ/\Q (.ref x) H2) E
def Binds (K:Hl)(fd:FuncData)(ps:List Str)(ds:List Value):Prop :=
 ∀(s:Shared) (us:List Value),K.In s.heap->(us++ds).length=ps.length->BindsTo s fd ⟨us,[]⟩ (ps.zip (us++ds))
theorem Binds.all {K:Hl}{fd:FuncData}{ps:List Str}(h:∀us:List Value,us.length=ps.length->bindArgs fd ⟨us,[]⟩=pure (ps.zip us)):Binds K fd ps []:=λ s us _ hl=>by
 rw[IX] at hl ⊢;exact .of_eq (h us hl)
def Passes (CX:mD)(X:Cx)(E:XK):Prop:=∀(pins:BT) (Hh : St) (H:Hp) (s:Shared) (e:Value) (s':Shared),Inv X pins Hh H s->CX X.stack H s E e s'->X.xe e s'
section
variable {X:Cx}{CX:mD}{k:Nat}{f C:Addr}{fd:FuncData}{ps:List Str}{sp:Sp}{dvs:List V}{ds:List Value}{E:XK}{x m:Str}{p pos apos:Pos}{e o:Expr}{es:List Expr}{ta:TE}{t:TA}
theorem zb {pins:BT}{Hh : St}{H:Hp}{s:Shared}{Q:VK}{us:List Value}{vs:List V}(F:bA X.prog X.w X.K X.mg X.base CX k f fd ps sp)(hr:dz k X.A)(hb:Binds X.K fd ps ds)(hd:Vals dvs ds)(hx:Passes CX X E)
  (I:Inv X pins Hh H s) (r:Vals vs us) (h:sp (vs++dvs) H Q E):wpAny (model X.prog X.w) X.A (call (.ref f) us) (EP X pins Hh Q) X.xe s:=by
 have r2:Vals (vs++dvs) (us++ds):=r.append hd;have hl:(us++ds).length=ps.length:=by rw[<-r2.length];exact F.len _ _ _ _ h
 refine wpAny_call (Kk (F.run X.A X.stack s H ⟨us,[]⟩ (us++ds) (vs++dvs) Q E hr I.Ep (hb s us I.ft hl) r2 h) λ r s' hq=>?_);cases r with
 | error e=>exact hx pins Hh H s e s' I hq
 | ok fl =>
  cases fl with
  | ret u=>exact I.after hq
  | next=>exact False.elim hq
  | brk=>exact False.elim hq
  | cont=>exact False.elim hq
theorem C9 (F:bA X.prog X.w X.K X.mg X.base CX k f fd ps sp)(hr:dz k X.A)(hg:Gl X x)(hm:X.mg x=some (.ref f))(hk:Iw X.K (.ref f)=true)(hb:Binds X.K fd ps ds)(hd:Vals dvs ds)(hx:Passes CX X E)
  (ha:PA X (e::es) t) (hdb:(x == ("__debug__" : Str))=false:=by decide) (he:starEach (e::es) X.env=(false,eval e X.env)::starEach es X.env:=by rfl) (hpl:(backTo pos (starEach es X.env)).any (·.1)=false:=by rfl) :
  PE X (.Call (.Name x p) (e::es) [] pos) (xX sp dvs E t):=by
 intro pins s Hh H Q I h;refine Kv (qQ I hg hm ?_ hdb);refine J1 (h₀:=X.base) I.ok.mod.kn hk (bx (ha pos pins s Hh H _ I h) λ us s1 ⟨vs,H1,I1,r,q⟩=>⟨I1.ft,?_⟩) he hpl;exact zb F hr hb hd hx I1 r q
theorem Dc {pl:Sem Bool}(he:PE X o ta)(c:lW X.K C)(hm:Meth X.K C m f)(F:bA X.prog X.w X.K X.mg X.base CX k f fd ps sp)(hr:dz k X.A)(hb:Binds X.K fd ps ds)(hd:Vals dvs ds)(hx:Passes CX X E)(ha:PA X (e::es) t)
  (hst:starEach (e::es) X.env=(false,eval e X.env)::starEach es X.env:=by rfl) (hpl:(backTo pos (starEach es X.env)).any (·.1)=false:=by rfl)
  (ht:eval (.Call (.Attribute o m apos) (e::es) [] pos) X.env=(do
   let ov <-eval o X.env
   standAt apos.atName
   let (f,first) <-holding [ov] (getMethod ov m pl)
   callWith pos f first (backTo pos (starEach (e::es) X.env)) (backToKw pos (keywordEach [] X.env))):=by rfl) :
  PE X (.Call (.Attribute o m apos) (e::es) [] pos) (CA C m sp dvs E ta t):=by
 intro pins s Hh H Q I h;refine PySem.W.methodCall_KW (pl:=pl) (bx (he pins s Hh H _ I h) λ u s1 ⟨x,H1,I1,rx,a,dx,fs,ex,ea,l,q⟩=>?_) ht;subst ex;obtain rfl:u=Value.ref a:=rx;refine xS I1 ea c hm l ?_;refine J1 (first:=[.ref a]) (h₀:=X.base) I.ok.mod.kn hm.kp (bx (ha pos pins s1 Hh H1 _ I1 q) λ us s2 ⟨vs,H2,I2,r,q2⟩=>⟨I2.ft,?_⟩) hst hpl;exact zb (us:=.ref a::us) (vs:=.ref a::vs) F hr hb hd hx I2 (.cons rfl r) q2
structure Mk (K:Hl) (C f:Addr):Prop where
 makes:JC K C=true
 init:Ic K (.ref C) "__init__" = some (some (.ref f))
 fn:Jj K (.ref f)=true
 kp:Iw K (.ref C)=true
theorem AR {pins:BT}{Hh : St}{H:Hp}{s:Shared}{Q:VK}{us:List Value}{vs:List V}(M:Mk X.K C f)(F:bA X.prog X.w X.K X.mg X.base CX k f fd ps sp)(hr:dz (k+1) X.A)(hb:Binds X.K fd ps ds)(hd:Vals dvs ds)
  (hx:Passes CX X E) (I:Inv X pins Hh H s) (r:Vals vs us)
  (h:∀x dx,H x=none->H dx=none->dx≠x->sp (.ref x::(vs++dvs)) (upd (upd H dx (.own x)) x (.ins C dx [])) (λ v H2=>v=.aZ/\Q (.ref x) H2) E) :
  wpAny (model X.prog X.w) X.A (call (.ref C) us) (EP X pins Hh Q) X.xe s:=by
 have hq:=h (s.heap.objs.size+1) s.heap.objs.size (I.bc.fresh (Ip _)) (I.bc.fresh (Hn _)) (Hw (Iy _));have I2:=Inv.made (C:=C) I;have r2:Vals (V.ref (s.heap.objs.size+1)::(vs++dvs)) (Value.ref (s.heap.objs.size+1)::(us++ds)):=.cons rfl (r.append hd);have hl:(Value.ref (s.heap.objs.size+1)::us++ds).length=ps.length:=by
  have e:=r2.length;rw[F.len _ _ _ _ hq] at e;exact e.symm
 refine wpAny_call (AO (f:=f) I.ft M.makes M.init (beq_iff_eq.mp M.fn) (Kk (F.run _ X.stack _ _ ⟨Value.ref (s.heap.objs.size+1)::us,[]⟩ (Value.ref (s.heap.objs.size+1)::(us++ds)) _ _ E (hr.make C us [])
  (I2.Ep.make C us []) (hb _ (Value.ref (s.heap.objs.size+1)::us) I2.ft hl) r2 hq) λ r s' hq'=>?_))
 cases r with
 | error e=>exact hx pins Hh _ _ e s' I2 hq'
 | ok fl =>
  cases fl with
  | ret u =>
   obtain⟨v,H',I3,rv,ev,q3⟩:=I2.after hq';subst ev;exact⟨rv,⟨V.ref (s.heap.objs.size+1),H',I3,rfl,q3⟩⟩
  | next=>exact False.elim hq'
  | brk=>exact False.elim hq'
  | cont=>exact False.elim hq'
theorem Dd (M:Mk X.K C f)(F:bA X.prog X.w X.K X.mg X.base CX k f fd ps sp)(hr:dz (k+1) X.A)(hg:Gl X x)(hm:X.mg x=some (.ref C))(hb:Binds X.K fd ps ds)(hd:Vals dvs ds)(hx:Passes CX X E)
  (ha:PA X (e::es) t) (hdb:(x == ("__debug__" : Str))=false:=by decide) (he:starEach (e::es) X.env=(false,eval e X.env)::starEach es X.env:=by rfl) (hpl:(backTo pos (starEach es X.env)).any (·.1)=false:=by rfl) :
  PE X (.Call (.Name x p) (e::es) [] pos) (CB C sp dvs E t):=by
 intro pins s Hh H Q I h;refine Kv (qQ I hg hm ?_ hdb);refine J1 (h₀:=X.base) I.ok.mod.kn M.kp (bx (ha pos pins s Hh H _ I h) λ us s1 ⟨vs,H1,I1,r,q⟩=>⟨I1.ft,?_⟩) he hpl;exact AR M F hr hb hd hx I1 r q
end
section
variable {X:Cx}{CX:mD}{k:Nat}{f C:Addr}{fd:FuncData}{ps ks:List Str}{sp:Sp}{E:XK}{x m:Str}{p pos apos kpos:Pos}{e o:Expr}{es:List Expr}{kws:List Keyword}{te ta:TE}{t tk:TA}{nm:Option Str}
variable {g:List Value->List Value->List Value}{gV:List V->List V->List V}
end
structure aV (N P:List Str) (sc:Scope):Prop where
 kind:sc.kind=.function
 co:sc.isCoroutine=false
 gen:sc.isGenerator=false
 nd:N.Nodup
 pre:N.take P.length=P
 par:∀x∈P,sc.names.lookup x=some .local\/sc.names.lookup x=some .cell
 Er:∀y∈sc.names,y.2≠.free
theorem si {kindOf:Str->Option NameKind}{x:Str}:∀{binds:List (Str×Value)} {m:Ch},(∀v,(x,v)∉binds)->bindL kindOf binds m x=m x
 | [],_,_=>rfl
 | (n,v)::r,m,h=>by
  unfold bindL;rw[si λ w hw=>h w (Hx _ hw)];split
  ·have:x≠n:=by rintro rfl;exact h v Hv
   simp[this]
  ·rfl
theorem sj {kindOf:Str->Option NameKind}{x:Str}:∀{binds:List (Str×Value)} {m:Ch},(∀v,(x,v)∉binds)->bindC kindOf binds m x=m x
 | [],_,_=>rfl
 | (n,v)::r,m,h=>by
  unfold bindC;rw[sj λ w hw=>h w (Hx _ hw)];split
  ·rfl
  ·have:x≠n:=by rintro rfl;exact h v Hv
   simp[this]
theorem sr {kindOf:Str->Option NameKind}{x:Str}{v:Value}:∀{P:List Str} {vs:List Value} {i:Nat} {m:Ch},P.Nodup->P[i]?=some x->vs[i]?=some v->kindOf x=some .local ->
  bindL kindOf (P.zip vs) m x=some v
 | [],_,_,_,_,h,_,_=>by simp at h
 | _::_,[],_,_,_,_,h,_=>by simp at h
 | p::P,w::vs,0,m,nd,h1,h2,hk=>by
  simp at h1 h2;subst h1;subst h2;show bindL kindOf ((p,w)::P.zip vs) m p=_;unfold bindL;rw[si λ v hv=>(ID.mp nd).1 (JD hv).1,if_pos hk];simp
 | p::P,w::vs,i+1,m,nd,h1,h2,hk=>by
  show bindL kindOf ((p,w)::P.zip vs) m x=_;unfold bindL;exact sr (i:=i) (ID.mp nd).2 (by simpa using h1) (by simpa using h2) hk
theorem sy {kindOf:Str->Option NameKind}{x:Str}{v:Value}:∀{P:List Str} {vs:List Value} {i:Nat} {m:Ch},P.Nodup->P[i]?=some x->vs[i]?=some v->kindOf x≠some .local ->
  bindC kindOf (P.zip vs) m x=some v
 | [],_,_,_,_,h,_,_=>by simp at h
 | _::_,[],_,_,_,_,h,_=>by simp at h
 | p::P,w::vs,0,m,nd,h1,h2,hk=>by
  simp at h1 h2;subst h1;subst h2;show bindC kindOf ((p,w)::P.zip vs) m p=_;unfold bindC;rw[sj λ v hv=>(ID.mp nd).1 (JD hv).1,if_neg hk];simp
 | p::P,w::vs,i+1,m,nd,h1,h2,hk=>by
  show bindC kindOf ((p,w)::P.zip vs) m x=_;unfold bindC;exact sy (i:=i) (ID.mp nd).2 (by simpa using h1) (by simpa using h2) hk
def start (N:List Str)(vs:List V):St:=vs.map some++JE (N.length-vs.length) none
def oX (CX:mD)(P:Program)(w:World)(K:Hl)(mg:Ch)(base:Heap)(N:List Str)(qual:Str)(scope:Scope)(f:Addr)(cd:Value)(A:Around)(outer:List Env)(s:Shared)(H:Hp)(E:XK):Cx where
 prog:=P
 w:=w
 K:=K
 mg:=mg
 base:=base
 A:=A.deeper (envOfC qual scope s.heap.objs.size f cd)
 N:=N
 eQ:=s
 kQ:=H
 env:=envOfC qual scope s.heap.objs.size f cd
 outer:=outer
 stack:=envOfC qual scope s.heap.objs.size f cd::outer
 ex:=[]
 calm:=true
 fn:=λ _=>true
 pn:=[]
 xe:=λ e s'=>wpAny (model P w) (A.deeper (envOfC qual scope s.heap.objs.size f cd)) (leaving (envOfC qual scope s.heap.objs.size f cd) e) (λ _ s''=>CX outer H s E e s'') (λ e' s''=>CX outer H s E e' s'') s'
theorem uJ {sc:Scope}{n:Nat}{x:Str}(h:sc.names.lookup x=some .cell):∃c,(cellsFrom n sc.names []).lookup x=some c:=by
 have q:=PySem.W.cellsFrom_some sc.names n [] (.inl h);exact Option.isSome_iff_exists.mp q
theorem zc {CX:mD}{P:Program}{w:World}{K:Hl}{mg:Ch}{base:Heap}{N ps:List Str}{qual:Str}{scope:Scope}{f:Addr}{cd:Value}{A:Around}{outer:List Env}{s s1:Shared}{H:Hp}{E:XK}{us:List Value}{vs:List V}
  (S:aV N ps scope) (hd:A.handled=none) (e0:oW P w K mg base A outer s H) (hl:vs.length=ps.length) (r:Vals vs us)
  (x:InCallC s s.heap.objs.size (bindL (envOfC qual scope s.heap.objs.size f cd).kindOf (ps.zip us) λ _=>none) (cellsFrom (s.heap.objs.size+1) scope.names []) (bindC (envOfC qual scope s.heap.objs.size f cd).kindOf (ps.zip us) λ _=>none) s1) :
  Inv (oX CX P w K mg base N qual scope f cd A outer s H E) [] (start N vs) H s1:=by
 have hpl:ps.length<=N.length:=by have:=congrArg Iz S.pre;rw[HP] at this;omega
 obtain⟨h1,tk,rfl,hk⟩:=x.done;have noA:∀b:Addr,b∉(oX CX P w K mg base N qual scope f cd A outer s H E).ex:=λ b z=>absurd (show b∈([]:List Addr) from z) (by simp)
 refine⟨⟨e0.mod,S.kind,rfl,rfl,Hn _,λ y z c h1 h2=>?_,λ y hy=>?_,λ y c _ h=>?_,λ _=>hd,Around.frames_deeper e0.frames,.inr ⟨rfl,rfl⟩,λ b z=>absurd z (noA b),e0.bs,e0.pJ,λ b _ _=>noA b,λ b z=>absurd z (noA b),e0.iX,e0.uA⟩,
  rfl,e0.bare,Un.kept hk,⟨_,x.toInCall.ns,λ i y v h1 h2 h3=>?_⟩,λ y c h=>⟨_,x.cell y c h⟩,e0.bc.fresh (Hn _),λ y c h=>?_,λ p hp=>absurd (show p∈([]:BT) from hp) (by simp),e0.bc.kept hk,?_⟩
 ·exact name_of_addr x.apart (PySem.mem_of_lookup h1) (PySem.mem_of_lookup h2)
 ·have hy:scope.names.lookup y=some .cell\/scope.names.lookup y=some .free:=hy
  rcases hy with hy | hy
  ·exact uJ hy
  ·exact absurd rfl (S.Er _ (PySem.mem_of_lookup hy))
 ·exact HZ (x.above y c (PySem.mem_of_lookup h))
 ·have hi:i<vs.length:=by
   unfold start at h2;by_cases hi:i<vs.length
   ·exact hi
   ·rw[Jk (by simpa using hi)] at h2;rw[List.getElem?_replicate] at h2;split at h2<;>cases h2
  have ha:vs[i]?=some v:=by
   unfold start at h2;rw[IL (by simpa using hi),HC] at h2;cases e:vs[i]? with
   | none=>rw[e] at h2;cases h2
   | some a=>rw[e] at h2;cases h2;rfl
  obtain⟨u,hu,rv⟩:=r.get ha;have hp:ps[i]?=some y:=by
   rw[<-S.pre,List.getElem?_take_of_lt ⋯];exact h1
  have ndP:ps.Nodup:=by rw[<-S.pre];exact S.nd.sublist (List.take_sublist _ _)
  exists u,rv
  rcases S.par y (Hy hp) with k | k
  ·exact .inl ⟨k,sr ndP hp hu k⟩
  ·obtain⟨c,e⟩:=uJ (n:=s.heap.objs.size+1) k;refine .inr ⟨.inl k,c,e,?_⟩;have q:=x.cell y c e;rw[sy ndP hp hu (by show scope.names.lookup y≠_;rw[k];decide)] at q;exact q
 ·exact e0.bc.fresh (HZ (x.above y c (PySem.mem_of_lookup h)))
 ·unfold start;show _=N.length;rw[Ht,Hk,JF];omega
theorem CC {CX:mD}{P:Program}{w:World}{K:Hl}{mg:Ch}{base:Heap}{k:Nat}{f:Addr}{name qual:Str}{params:Arguments}{body:List Stmt}{scope:Scope}{dV kV doc pm cdv ct oc:Value}{an od:Option Addr}
  {osl:Cl} {N ps:List Str} {sp:Sp} (lk:K.lookup f=some ⟨oc,od,.func (Ia name qual params body scope dV kV doc pm an cdv ct),osl⟩) (hcd:IT K cdv qual=true) (S:aV N ps scope)
  (len:∀vs H Q E,sp vs H Q E->vs.length=ps.length)
  (hbody:∀(A:Around) (outer:List Env) (s:Shared) (H:Hp) (vs:List V) (Q:VK) (E:XK),dz k (A.deeper (envOfC qual scope s.heap.objs.size f cdv))->sp vs H Q E ->
   ∃t,ji (oX CX P w K mg base N qual scope f cdv A outer s H E) body t/\t { nx:=λ _ H'=>Q .aZ H',rt:=Q } (start N vs) H) :
  bA P w K mg base CX (k+1) f (Ia name qual params body scope dV kV doc pm an cdv ct) ps sp:=by
 refine⟨len,λ A outer s H args us vs Q E hr e0 hb r hsp=>?_⟩;have hl:=len _ _ _ _ hsp;have KX:K.In s.heap:=e0.mod.kn.keeps λ b o e=>(e0.bs b o e).1
 have lim:s.heap.NoLimit:=e0.mod.nolimit.keeps λ b o e=>(e0.bs b o e).1
 have hkind:∀y∈ps.zip us,scope.names.lookup y.1=some .local\/(scope.names.lookup y.1=some .cell/\((cellsFrom (s.heap.objs.size+1) scope.names []).lookup y.1).isSome=true):=λ ⟨n,v⟩ hy=>by
  rcases S.par n (JD hy).1 with q | q
  ·exact .inl q
  ·exact .inr ⟨q,PySem.W.cellsFrom_some _ _ _ (.inl q)⟩
 refine codeAny_call_function hr.depth (KX _ _ lk) rfl S.co S.gen rfl (PySem.W.codeRec_of KX hcd) (hb _ _ _ _ ?_);refine wpAny_newFunctionEnv_cells S.kind hkind λ env he s1 x=>?_
 subst he;refine⟨lim.keeps x.toInCall.keep,codeAny_func ?_⟩;obtain⟨t,ht,hq⟩:=hbody A outer s H vs Q E (hr.deeper _) hsp;have I:Inv (oX CX P w K mg base N qual scope f cdv A outer s H E) [] (start N vs) H s1:=zc S hr.hd e0 hl r x;refine J9 (ht [] s1 (start N vs) H _ I hq) (λ fl s' hs=>?_) λ e s' hs=>hs
 have fin:∀{σ':St} {H':Hp} {v:V} {u:Value},Inv (oX CX P w K mg base N qual scope f cdv A outer s H E) [] σ' H' s'->RelV v u->Q v H'->CE outer P w H s Q u s' :=
  λ {σ' H' v u} J rv q=>⟨v,H',J.os,J.bare,J.base,J.bc,rv,q⟩
 cases fl with
 | ret u =>
  obtain⟨v,σ',H',J,rv,q⟩:=hs;exact fin J rv q
 | next =>
  obtain⟨σ',H',J,q⟩:=hs;exact fin (v:=V.aZ) (u:=Value.none) J rfl q
 | brk =>
  obtain⟨_,_,_,q⟩:=hs;exact False.elim q
 | cont =>
  obtain⟨_,_,_,q⟩:=hs;exact False.elim q
section
variable {X:Cx}{x:Str}{p pos:Pos}{e:Expr}{es:List Expr}{t:TA}{id T:String}{r:List V->Hp->VK->Prop}
def Es (r:List V->Hp->VK->Prop)(t:TA):TE:=λ Hh H Q=>t Hh H λ vs H1=>r vs H1 Q
theorem aP (hc:eR X (.builtin id) r) (hg:Gl X x) (hm:X.mg x=none) (hv:bootBuiltins x=some (.builtin id)) (ha:PA X (e::es) t) (hn:x ≠ "__name__" := by decide) (hdb:(x == ("__debug__" : Str))=false:=by decide)
  (he:starEach (e::es) X.env=(false,eval e X.env)::starEach es X.env:=by rfl) (hpl:(backTo pos (starEach es X.env)).any (·.1)=false:=by rfl):PE X (.Call (.Name x p) (e::es) [] pos) (Es r t):=by
 intro pins s Hh H Q I h;refine Kv (iM I hg hm hv ?_ hn hdb);exact PyProof.Rows.callWith_builtin1 (bx (ha pos pins s Hh H _ I h) λ us s1 ⟨vs,H1,I1,r1,q1⟩=>hc pins s1 Hh H1 vs us Q I1 r1 q1) he hpl
theorem bw (hc:eR X (.type T) r) (hg:Gl X x) (hm:X.mg x=none) (hv:bootBuiltins x=some (.type T)) (ha:PA X (e::es) t) (hn:x ≠ "__name__" := by decide) (hdb:(x == ("__debug__" : Str))=false:=by decide)
  (he:starEach (e::es) X.env=(false,eval e X.env)::starEach es X.env:=by rfl) (hpl:(backTo pos (starEach es X.env)).any (·.1)=false:=by rfl):PE X (.Call (.Name x p) (e::es) [] pos) (Es r t):=by
 intro pins s Hh H Q I h;refine Kv (iM I hg hm hv ?_ hn hdb);exact PyProof.Rows.callWith_type1 (bx (ha pos pins s Hh H _ I h) λ us s1 ⟨vs,H1,I1,r1,q1⟩=>hc pins s1 Hh H1 vs us Q I1 r1 q1) he hpl
theorem xY (hc:eR X (.type T) r) (hg:Gl X x) (hm:X.mg x=none) (hv:bootBuiltins x=some (.type T)) (hn:x ≠ "__name__" := by decide) (hdb:(x == ("__debug__" : Str))=false:=by decide) :
  PE X (.Call (.Name x p) [] [] pos) (Es r xW):=by
 intro pins s Hh H Q I h;refine Kv (iM I hg hm hv ?_ hn hdb);exact PyProof.Rows.callWith_type0 (hc pins s Hh H [] [] Q I .nil h)
end
end L2
namespace HT
open PySem PyProof.Rows
section
open PySem.SeqAt
open PySem.AutoSeq1 (wpAny_loadPart')
open PySem.MeetsSeq PySem.MeetsSeq2 PySem.MeetsSeq3
end
section
variable {prog:Program}{w:World}{A:Around}{E:AT}{s:Shared}
theorem De {t b:Addr}{vs ws:List Value}{Q:AT}(ht:IsTup s.heap t vs.toArray)(hb:IsTup s.heap b ws.toArray)(hv:vs≠[])
  (h1:ws=[]->Q (.ref t) s) (h2:ws≠[]->Q (.ref s.heap.objs.size) { s with heap:=s.heap.push { cls:=.type "tuple",data:=.seq (vs++ws).toArray } })
  (hsz:vs.length+ws.length<=sizeLine):wpAny (model prog w) A (binaryOp .Add (.ref t) (.ref b)) Q E s:=by
 obtain⟨⟨cls,dd,data,sl⟩,ho,hc,n,hd⟩:=id ht;obtain⟨⟨cls2,dd2,data2,sl2⟩,ho2,hc2,n2,hd2⟩:=id hb;simp only at hc hd hc2 hd2;subst hc hd hc2 hd2;have e:vs.toArray++ws.toArray=(vs++ws).toArray:=by simp
 by_cases hw:ws=[]
 ·exact concat_meets ⟨_,ho,rfl⟩ ⟨_,ho2,rfl⟩ noFill_tuple_add seq_tuple_add PySem.F.slot_tuple_add PySem.F.entry_tuple_add (PySem.F.args_tuple_add_2 _ _)
   (tuple_addW1 t b vs.toArray ws.toArray n n2 dd dd2 sl sl2 (by simpa using hv) (by simp[hw])) ⟨ho,ho2,h1 hw⟩
 ·refine concat_meets ⟨_,ho,rfl⟩ ⟨_,ho2,rfl⟩ noFill_tuple_add seq_tuple_add PySem.F.slot_tuple_add PySem.F.entry_tuple_add (PySem.F.args_tuple_add_2 _ _)
   (tuple_addW2 t b vs.toArray ws.toArray n n2 dd dd2 sl sl2 (by simpa using hv) (by simpa using hw) (by rw[HF,HF];exact hsz)) ⟨ho,ho2,?_⟩
  rw[e];exact h2 hw
def bU (n d:Nat):Option Int->Nat
 | none=>d
 | some v=>if v<0 then (v+(n:Int)).toNat else min v.toNat n
theorem kU (n d:Nat):bU n d none=d:=rfl
theorem jd (n d k:Nat):bU n d (some (k:Int))=min k n:=by
 show (if (k:Int)<0 then ((k:Int)+(n:Int)).toNat else min (k:Int).toNat n)=min k n;rw[if_neg ⋯,IM]
theorem Et (n d:Nat)(hd:d<=n)(o:Option Int):bU n d o<=n:=by
 cases o with
 | none=>exact hd
 | some v =>
  show (if v<0 then (v+(n:Int)).toNat else min v.toNat n)<=n;by_cases hv:v<0
  ·rw[if_pos hv];omega
  ·rw[if_neg hv];exact Nat.min_le_right _ _
theorem wV (v:Int)(n d:Nat):(if v<0 then max (v+(n:Int)) 0 else min v (n:Int))=((bU n d (some v):Nat):Int):=by
 show (if v<0 then max (v+(n:Int)) 0 else min v (n:Int))=(((if v<0 then (v+(n:Int)).toNat else min v.toNat n):Nat):Int);by_cases hv:v<0
 ·simp only[if_pos hv];omega
 ·simp only[if_neg hv];omega
theorem xZ (lo hi:Option Int)(n:Nat):Builtin.Slice.sliceAdjust lo hi 1 (n:Int)=(((bU n 0 lo:Nat):Int),((bU n n hi:Nat):Int)):=by
 have h1:¬((1:Int)<0):=by omega
 unfold Builtin.Slice.sliceAdjust;simp only[h1,if_false];refine Prod.ext ?_ ?_
 ·cases lo with
  | none=>rfl
  | some v=>exact wV v n 0
 ·cases hi with
  | none=>rfl
  | some v=>exact wV v n n
theorem x8 (i j:Nat):Builtin.Slice.slicePlaces (i:Int) (j:Int) 1=j-i:=by
 unfold Builtin.Slice.slicePlaces;have h1:(1:Int) > 0:=by omega
 simp only[h1,if_true,Int.ediv_one];split<;>omega
theorem pM {v:Value}{o:Option Int}{Q:Option Int->Shared->Prop}(p:IsPart v o)(h:Q o s):wpAny (model prog w) A (Builtin.Slice.slicePartIndex v) Q E s:=by
 cases p with
 | none=>exact slicePart_none h
 | int i t=>exact slicePart_int h
theorem jo {sl:Addr}{vl vu:Value}{lo hi:Option Int}{n:Nat}{Q:Int×Int×Nat->Shared->Prop}(hs:s.heap.IsSliceOf sl vl vu .none)(pl:IsPart vl lo)(pu:IsPart vu hi)
  (h:Q (((bU n 0 lo:Nat):Int),1,bU n n hi-bU n 0 lo) s):wpAny (model prog w) A (Builtin.Slice.sliceApplied (.ref sl) (pure (n:Int))) Q E s:=by
 obtain⟨os,hos,hcs,hds⟩:=id hs;unfold Builtin.Slice.sliceApplied Builtin.Slice.sliceFields;refine J7 (J7 (Ka hos hds (x:=vl) rfl (J7 (Ka hos hds (x:=vu) rfl (J7 (Ka hos hds (x:=.none) rfl (J8 ?_)))))));refine J7 (slicePart_none ?_);show wpAny _ _ (if ((1:Int) == 0)=true then _ else _) _ _ s;rw[if_neg ⋯];refine J7 (pM pl (J7 (pM pu (J7 (J8 ?_)))));show wpAny _ _ (match Builtin.Slice.sliceAdjust lo hi 1 (n:Int) with | (lo,hi)=>pure (lo,(1:Int),Builtin.Slice.slicePlaces lo hi 1)) _ _ s;rw[xZ lo hi n];show wpAny _ _ (pure (((bU n 0 lo:Nat):Int),(1:Int),Builtin.Slice.slicePlaces ((bU n 0 lo:Nat):Int) ((bU n n hi:Nat):Int) 1)) _ _ s;rw[x8];exact J8 h
theorem AS (xs:Array Value)(i k:Nat):((HY k).filterMap λ (m:Nat)=>xs[((i:Int)+(m:Int)*1).toNat]?).toArray=((xs.toList.drop i).take k).toArray:=by
 have e:(λ (m:Nat)=>xs[((i:Int)+(m:Int)*1).toNat]?)=λ m=>xs[i+m]?:=by
  funext m
  have:((i:Int)+(m:Int)*1).toNat=i+m:=by omega
  rw[this]
 rw[e];have:=pick_run xs i k;rw[List.filterMap_map] at this;have e2:((λ x=>xs[x]?) ∘ λ x=>i+x)=λ m=>xs[i+m]?:=rfl
 rw[e2] at this;rw[this]
theorem nU {t sl:Addr}{items:Array Value}{vl vu:Value}{lo hi:Option Int}{Q:AT}(ht:IsTup s.heap t items)(hs:s.heap.IsSliceOf sl vl vu .none)(pl:IsPart vl lo)(pu:IsPart vu hi)
  (hw:¬(bU items.size 0 lo=0/\bU items.size items.size hi=items.size))
  (h:Q (.ref s.heap.objs.size) { s with heap:=s.heap.push { cls:=.type "tuple",data:=.seq ((items.toList.drop (bU items.size 0 lo)).take (bU items.size items.size hi-bU items.size 0 lo)).toArray } })
  (hsz:items.size<=sizeLine):wpAny (model prog w) A (getItem (.ref t) (.ref sl)) Q E s:=by
 have htake:sizeOk (.seq ((items.toList.drop (bU items.size 0 lo)).take (bU items.size items.size hi-bU items.size 0 lo)).toArray):=by
  show ((items.toList.drop (bU items.size 0 lo)).take (bU items.size items.size hi-bU items.size 0 lo)).toArray.size<=sizeLine;rw[HF,HP,IY,Ih];omega
 have hj:bU items.size items.size hi<=items.size:=Et _ _ (Hn _) hi;obtain⟨os,hos,hcs,hds⟩:=id hs;have hTs:s.TypeIs (.ref sl) "slice" := ⟨os,hos,hcs⟩;unfold getItem
 try with_reducible refine Kb ?_
 first | refine J7 (J8 ?_) | skip
 refine J7 (KH ht.typeIs ⋯ ?_);refine J7 (wpAny_callSpecial?_slot (name:=Str.ofString "__getitem__") ht.typeIs PyProof.Rows.slot_tuple_getitem
  (Kc PyProof.Rows.slot_tuple_getitem ht.typeIs entry_tuple_getitem ?_ (args_tuple_getitem _ _)))
 show wpAny _ _ (Builtin.Tuple.tupleItemsOf (.ref t) >>= _) _ _ s;refine J7 (tupleItemsOf_ ht ?_);refine J7 (Kp hTs ?_);rw[if_pos ⋯];refine J7 (jo hs pl pu ?_);have hno:¬((((bU items.size 0 lo:Nat):Int) == 0&&(1:Int) == 1&&(bU items.size items.size hi-bU items.size 0 lo) == items.size)=true):=by
  intro q;rw[HU,HU] at q;have q1:((bU items.size 0 lo:Nat):Int)=0:=eq_of_beq q.1.1;have q2:bU items.size items.size hi-bU items.size 0 lo=items.size:=eq_of_beq q.2;exact hw ⟨by omega,by omega⟩
 show wpAny _ _ (if (((bU items.size 0 lo:Nat):Int) == 0&&(1:Int) == 1&&(bU items.size items.size hi-bU items.size 0 lo) == items.size)=true then _ else _) _ _ s;rw[if_neg hno,AS]
 first
  | exact J7 (m:=Builtin.Tuple.tupleExact _) (Ke (J8 ⟨_,rfl,J8 h⟩) htake)
  | exact J7 (m:=Builtin.Tuple.tupleExact _) (Ke (J7 (J8 (J8 ⟨_,rfl,J8 h⟩))) htake)
  | exact J7 (J7 (m:=Builtin.Tuple.tupleExact _) (Ke (J8 (J8 ⟨_,rfl,J8 h⟩)) htake))
  | exact J7 (J7 (m:=Builtin.Tuple.tupleExact _) (Ke (J8 ⟨_,rfl,J8 h⟩) htake))
end
end HT
namespace L2
open PySem PySem.Spec PyProof.Rows
abbrev TO:=St->Hp->(Option Int->Hp->Prop)->Prop
def PO (X:Cx)(e:Option Expr)(t:TO):Prop :=
 ∀(pins:BT) (s:Shared) (Hh : St) (H:Hp) (Q:Option Int->Hp->Prop),Inv X pins Hh H s->t Hh H Q ->
  wpAny (model X.prog X.w) X.A (evalPart e X.env) (λ u s'=>∃o H',Inv X pins Hh H' s'/\IsPart u o/\Q o H') X.xe s
def Df:TO:=λ _ H Q=>Q none H
inductive AU (Q:(Option Int->Hp->Prop)) (x:V) (H1:Hp):Prop
 | mk (i:_) (_:x=.int i) (_:Q (some i) H1)
def Fy (t:TE):TO:=λ Hh H Q=>t Hh H λ x H1=>AU Q x H1
section
variable {X:Cx}{e:Expr}{te:TE}{lo hi:Option Expr}{tl th:TO}{pos p2:Pos}
theorem gU:PO X none Df:=by
 intro pins s Hh H Q I h;rw[evalPart_none];exact J8 ⟨none,H,I,.none,h⟩
theorem gW (h:PE X e te):PO X (some e) (Fy te):=by
 intro pins s Hh H Q I hw;rw[evalPart_some];refine bx (h pins s Hh H _ I hw) λ u s1 ⟨x,H1,I1,r1,q1⟩=>?_
 obtain⟨i,rfl,q⟩:=q1;obtain⟨t,rfl⟩:=r1;exact⟨some i,H1,I1,.int i t,q⟩
def Eu (X:Cx)(r:V->Option Int->Option Int->Hp->VK->Prop):Prop :=
 ∀(pins:BT) (s:Shared) (Hh : St) (H:Hp) (x:V) (v vl vu:Value) (lo hi:Option Int) (sl:Addr) (Q:VK),Inv X pins Hh H s->RelV x v->s.heap.IsSliceOf sl vl vu .none->IsPart vl lo->IsPart vu hi->r x lo hi H Q ->
  ∃T id,typeLookup (.type T) "__getitem__" = pure (some (.builtin id))/\s.TypeIs v T/\wpAny (model X.prog X.w) X.A (getItem v (.ref sl)) (EP X pins Hh Q) X.xe s
def G4 (r:V->Option Int->Option Int->Hp->VK->Prop)(te:TE)(tl th:TO):TE:=λ Hh H Q=>te Hh H λ x H1=>tl Hh H1 λ l H2=>th Hh H2 λ u H3=>r x l u H3 Q
theorem fV {r:V->Option Int->Option Int->Hp->VK->Prop}(hr:Eu X r)(he:PE X e te)(hl:PO X lo tl)(hu:PO X hi th):PE X (.Subscript e (.Slice lo hi none p2) pos) (G4 r te tl th):=by
 intro pins s Hh H Q I h;refine Subscript_ (bx (he pins s Hh H _ I h) λ v s1 ⟨x,H1,I1,r1,q1⟩=>?_);refine wpAny_Slice (bx (hl pins s1 Hh H1 _ I1 q1) λ vl s2 ⟨l,H2,I2,pl,q2⟩=>bx (hu pins s2 Hh H2 _ I2 q2) λ vu s3 ⟨u,H3,I3,pu,q3⟩=>?_);rw[evalPart_none];refine J8 ?_;have I4:Inv X pins Hh H3 { s3 with heap:=s3.heap.push { cls:=.type "slice",data:=.fields #[vl,vu,.none] } }:=I3.kept (t':=s3.toks) λ b ob q=>Hr _ q
 obtain⟨T,id,hT,ht,hg⟩:=hr pins { s3 with heap:=s3.heap.push { cls:=.type "slice",data:=.fields #[vl,vu,.none] } } Hh H3 x v vl vu l u s3.heap.objs.size Q I4 r1 (Heap.IsSliceOf.new ..) pl pu q3;show wpAny (model X.prog X.w) X.A (subscriptTail e (.Slice lo hi none p2) v (.ref s3.heap.objs.size)) (EP X pins Hh Q) X.xe { s3 with heap:=s3.heap.push { cls:=.type "slice",data:=.fields #[vl,vu,.none] } };exact tail_any (ops:=[.ref s3.heap.objs.size,v]) ht hT hg (by with_unfolding_all rfl)
def cm (xs:List V)(lo hi:Option Int):List V:=(xs.drop (HT.bU xs.length 0 lo)).take (HT.bU xs.length xs.length hi-HT.bU xs.length 0 lo)
theorem vW (xs:List V)(lo hi:Option Int):(cm xs lo hi).length<=xs.length:=by
 unfold cm;rw[HP,IY];omega
inductive GF (K:Hl) (x:V) (lo:Option Int) (hi:Option Int) (H:Hp) (Q:VK):Prop
 | mk (a xs:_) (_:x=.ref a) (_:au K H a xs) (_:¬(HT.bU xs.length 0 lo=0/\HT.bU xs.length xs.length hi=xs.length)) (_:∀p,H p=none->Q (.ref p) (upd H p (.tup (cm xs lo hi))))
theorem Ew:Eu X (GF X.K):=by
 intro pins s Hh H x v vl vu lo hi sl Q I rx hs pl pu h;obtain⟨a,xs,rfl,hx,hw,q⟩:=h;cases rx;obtain⟨its,r,ht,hz⟩:=I.tuple hx;have hlen:its.toArray.size=xs.length:=by rw[HF];exact r.length.symm
 exists "tuple",_,PyProof.Rows.slot_tuple_getitem.lookup,ht.typeIs;refine HT.nU ht hs pl pu (by rw[hlen];exact hw) ?_ (by rw[hlen];exact hz);rw[hlen];refine⟨.ref s.heap.objs.size,_,I.laid (t':=s.toks) (o:=.tup (cm xs lo hi)) (λ b ob q=>Hr _ q) (Hn _) ?_,rfl,q _ (I.bc.fresh (Hn _))⟩;exact⟨Hu (vW xs lo hi) hz,_,(r.drop (HT.bU xs.length 0 lo)).take (HT.bU xs.length xs.length hi-HT.bU xs.length 0 lo),⟨_,Hs _ rfl,rfl,_,rfl,rfl⟩⟩
theorem Vals.qR {xs:List V}{us:List Value}(r:Vals xs us):us=[]↔xs=[]:=by
 cases r with
 | nil=>simp
 | cons _ _=>simp
end
def mE (n:Nat)(i:Int):Option Nat:=if 0<=i then (if i<n then some i.toNat else none) else if -(n:Int)<=i then some (i+n).toNat else none
def eY {α : Type}(xs:List α)(i:Int):Option α:=(mE xs.length i).bind λ j=>xs[j]?
theorem qS {n:Nat}{i:Int}{j:Nat}(h:mE n i=some j):seqIndex? i n=some j/\j<n/\-(n:Int)<=i/\i<n:=by
 unfold mE at h;by_cases h0:0<=i
 ·rw[if_pos h0] at h;by_cases h1:i<n
  ·rw[if_pos h1] at h;have e:i.toNat=j:=HB.inj h;exact⟨by rw[seqIndex_of h0 h1,e],by omega,by omega,h1⟩
  ·rw[if_neg h1] at h;cases h
 ·rw[if_neg h0] at h;by_cases h1:-(n:Int)<=i
  ·rw[if_pos h1] at h;have e:(i+n).toNat=j:=HB.inj h;exact⟨by rw[seqIndex_neg ⋯ h1,e],by omega,h1,by omega⟩
  ·rw[if_neg h1] at h;cases h
theorem qT {α : Type}{xs:List α}{i:Int}{v:α}(h:eY xs i=some v):∃j,seqIndex? i xs.length=some j/\xs[j]?=some v/\j<xs.length/\-(xs.length:Int)<=i/\i<xs.length:=by
 unfold eY at h;cases e:mE xs.length i with
 | none=>rw[e] at h;cases h
 | some j =>
  rw[e] at h;obtain⟨h1,h2,h3,h4⟩:=qS e;exact⟨j,h1,h,h2,h3,h4⟩
theorem bH {α : Type}{xs:List α}{j:Nat}{v:α}(h:xs[j]?=some v):eY xs (j:Int)=some v:=by
 have hj:j<xs.length:=(HD.mp h).1;have e:mE xs.length (j:Int)=some j:=by
  unfold mE;rw[if_pos ⋯,if_pos ⋯];simp
 unfold eY;rw[e];exact h
def Dg (b:Expr):Prop:=∀o i,subscripted b false o i=operate [o,i] (getItem o i)
def zd (X:Cx)(r:R2):Prop :=
 ∀(value slice:Expr) (pins:BT) (s:Shared) (Hh : St) (H:Hp) (x y:V) (v u:Value) (Q:VK),Inv X pins Hh H s->RelV x v->RelV y u->r x y H Q ->
  subscripted slice false v u=operate [v,u] (getItem v u)->wpAny (model X.prog X.w) X.A (subscriptTail value slice v u) (EP X pins Hh Q) X.xe s
def Ex (X:Cx)(id:String)(r:V->List V->Hp->VK->Prop):Prop :=
 ∀(pins:BT) (s:Shared) (Hh : St) (H:Hp) (x:V) (xs:List V) (v:Value) (us:List Value) (Q:VK),Inv X pins Hh H s->RelV x v->Vals xs us->r x xs H Q ->
  wpAny (model X.prog X.w) X.A (call (.builtin id) (v::us)) (EP X pins Hh Q) X.xe s
section
variable {X:Cx}{a b:Expr}{ta tb:TE}{pos:Pos}
theorem aH {r:R2}(hr:zd X r)(ha:PE X a ta)(hb:PE X b tb)(hs:Dg b):PE X (.Subscript a b pos) (Cy r ta tb):=by
 intro pins s Hh H Q I h;exact Subscript_ (AH ha hb I h λ v u s2 x y H2 I2 rx ry q=>hr a b pins s2 Hh H2 x y v u Q I2 rx ry q (hs _ _))
inductive GG (K:Hl) (x:V) (y:V) (H:Hp) (Q:VK):Prop
 | mk (p xs i v:_) (_:x=.ref p) (_:y=.int i) (_:aT K H p xs) (_:eY xs i=some v) (_:Q v H)
inductive Ey (K:Hl) (x:V) (y:V) (H:Hp) (Q:VK):Prop
 | mk (p xs i v:_) (_:x=.ref p) (_:y=.int i) (_:au K H p xs) (_:eY xs i=some v) (_:Q v H)
inductive GH  (x:V) (y:V) (H:Hp) (Q:VK):Prop
 | mk (z i c:_) (_:x=.str z) (_:y=.int i) (_:z.length<=sizeLine) (_:eY z.cps.toList i=some c) (_:Q (.str ⟨#[c]⟩) H)
theorem cf:zd X (GG X.K):=by
 intro value slice pins s Hh H x y v u Q I rx ry h hs;obtain⟨p,xs,i,z,rfl,rfl,hq,he,q⟩:=h;cases rx;obtain⟨t,rfl⟩:=ry;obtain⟨its,r,pl,hz⟩:=I.list hq;obtain⟨j,h1,h2,h3,h4,h5⟩:=qT he;obtain⟨w,ew,rw'⟩:=r.get h2;have hl:=r.length;have hn:=jn;have fin:EP X pins Hh Q w s:=⟨z,H,I,rw',q⟩;by_cases h0:0<=i
 ·have hj:i.toNat=j:=by
   rw[seqIndex_of h0 h5] at h1;exact HB.inj h1
  exact item_listR pl.isList h0 ⋯ (by rw[hj];simpa using ew) fin hs
 ·have hj:(i+(its.toArray.size:Int)).toNat=j:=by
   rw[seqIndex_neg ⋯ h4] at h1;rw[HF,<-hl];exact HB.inj h1
  exact subscriptTail_builtinR (x:=w) pl.isList.typeIs slot_list_getitem.lookup
   (wpAny_getItem_list_neg (Q:=λ r s'=>r=w/\EP X pins Hh Q r s') pl.isList ⋯ (by rw[HF]<;>omega) ⋯ (by rw[hj];simpa using ew) ⟨rfl,fin⟩) hs
theorem aL:zd X (Ey X.K):=by
 intro value slice pins s Hh H x y v u Q I rx ry h hs;obtain⟨p,xs,i,z,rfl,rfl,hq,he,q⟩:=h;cases rx;obtain⟨t,rfl⟩:=ry;obtain⟨its,r,pl,hz⟩:=I.tuple hq;obtain⟨j,h1,h2,h3,h4,h5⟩:=qT he;obtain⟨w,ew,rw'⟩:=r.get h2;have hl:=r.length;have hn:=jn;have fin:EP X pins Hh Q w s:=⟨z,H,I,rw',q⟩;exact subscriptTail_builtinR (x:=w) pl.typeIs slot_tuple_getitem.lookup
  (getItem_tuple (j:=j) (Q:=λ r s'=>r=w/\EP X pins Hh Q r s') pl ⋯ ⋯ (by rw[HF,<-hl];exact h1) (by simpa using ew) ⟨rfl,fin⟩) hs
theorem ze:zd X GH:=by
  intro value slice pins s Hh H x y v u Q I rx ry h hs;obtain⟨z,i,c,rfl,rfl,hz,he,q⟩:=h;obtain⟨t,rfl⟩:=rx;obtain⟨t',rfl⟩:=ry;obtain⟨j,h1,h2,h3,h4,h5⟩:=qT he;have hl:z.cps.toList.length=z.length:=by simp[Str.length]
  rw[hl] at h1 h4 h5;have hn:=jn;exact tail_any (typeIs_str s z t) slot_str_getitem.lookup (getItem_str (c:=c) (by
    have e1:decide (i < -(2 ^ 63:Int))=false:=decide_eq_false ⋯;have e2:decide (i >= 2 ^ 63)=false:=decide_eq_false ⋯;rw[e1,e2,Bool.or_false]) (by rw[h1];simpa using h2) ⟨.str ⟨#[c]⟩,H,I.tok _,⟨_,rfl⟩,q⟩) hs
theorem x9 (its:List Value)(n j:Nat)(u:Value):Obj.mapSeq (·.setIfInBounds j u) { cls:=.type "list",data:=.seq its.toArray n } = { cls:=.type "list",data:=.seq (its.set j u).toArray n }:=by
 simp[Obj.mapSeq]
theorem Inv.lst {pins:BT}{Hh : St}{H:Hp}{s:Shared}{p:Addr}{xs:List V}(I:Inv X pins Hh H s)(h:H p=some (.lst xs)) :
  ∃(its:List Value) (n:Nat),Vals xs its/\s.heap.get? p=some { cls:=.type "list",data:=.seq its.toArray n }/\xs.length<=sizeLine:=by
 obtain⟨z,its,n,r,e⟩:=I.bc p _ h;exact⟨its,n,r,e,z⟩
theorem Inv.Ez {pins:BT}{Hh : St}{H:Hp}{s:Shared}{p:Addr}{xs ys:List V}{its its':List Value}{n n':Nat}{f:Obj->Obj}(I:Inv X pins Hh H s)(h:H p=some (.lst xs))
  (ho:s.heap.get? p=some { cls:=.type "list",data:=.seq its.toArray n }) (hf:f { cls:=.type "list",data:=.seq its.toArray n } = { cls:=.type "list",data:=.seq its'.toArray n' }) (r:Vals ys its') (hz:ys.length<=sizeLine) (t:Nat) :
  Inv X pins Hh (upd H p (.lst ys)) { s with heap:=s.heap.update p f,toks:=t }:=by
 have e:(s.heap.update p f).get? p=some { cls:=.type "list",data:=.seq its'.toArray n' }:=by
  rw[IA f ho (by rw[hf]<;>rfl),hf]
 refine I.write (x:=p) (e:=p) (by rw[h];trivial) (.inl rfl) (λ b u hb q=>(IE _ _ (Ne.symm hb)).trans q) ⟨_,e⟩ ?_;exact⟨hz,its',n',r,e⟩
inductive Fz  (o:V) (i:V) (v:V) (H:Hp) (Q:(Hp->Prop)):Prop
 | mk (p xs k j:_) (_:o=.ref p) (_:i=.int k) (_:H p=some (.lst xs)) (_:mE xs.length k=some j) (_:Q (upd H p (.lst (xs.set j v))))
theorem set_list:AA X Fz:=by
 intro pins s Hh H o i v ov iv u Q I ro ri rv h;obtain⟨p,xs,k,j,rfl,rfl,hp,hj,q⟩:=h;cases ro;obtain⟨t,rfl⟩:=ri;obtain⟨its,n,r,ho,hz⟩:=I.lst hp;obtain⟨h1,h2,h3,h4⟩:=qS hj;have hl:=r.length;have hn:=jn;have I':Inv X pins Hh (upd H p (.lst (xs.set j v))) { s with heap:=s.heap.update p (Obj.mapSeq (·.setIfInBounds j u)) } :=
  I.Ez hp ho (x9 its n j u) (r.set rv j) (by rw[IP];exact hz) s.toks
 by_cases h0:0<=k
 ·have hk:k.toNat=j:=by
   rw[seqIndex_of h0 h4] at h1;exact HB.inj h1
  exact PySem.W.ki_setAt ho h0 ⋯ (by rw[HF,<-hl];exact h4) (by rw[hk];exact⟨_,I',q⟩)
 ·have hk:(k+(its.toArray.size:Int)).toNat=j:=by
   rw[seqIndex_neg ⋯ h3] at h1;rw[HF,<-hl];exact HB.inj h1
  exact PySem.W.ki_setBack ho ⋯ (by rw[HF,<-hl];exact h3) ⋯ (by rw[hk];exact⟨_,I',q⟩)
def iK:V->Bool
 | .aZ=>true
 | .bl _=>true
 | .int _=>true
 | .str _=>true
 | _=>false
def sA:V->V->Bool
 | .aZ,.aZ=>true
 | .bl a,.bl b=>a == b
 | .bl a,.int b=>(if a then 1 else 0) == b
 | .int a,.bl b=>a == (if b then 1 else 0)
 | .int a,.int b=>a == b
 | .str a,.str b=>a == b
 | _,_=>false
theorem EA {A:Around}{s:Shared}{y x:V}{u v:Value}(ry:RelV y u)(rx:RelV x v)(fy:iK y=true)(fx:iK x=true):SeqAt.EqAt A s u v (sA y x):=by
 cases y with
 | aZ =>
  cases ry;cases x with
  | aZ=>cases rx;exact SeqAt.EqAt.same _
  | bl b=>cases rx;exact SeqAt.EqAt.none_bool b
  | int b=>obtain⟨t,rfl⟩:=rx;exact SeqAt.EqAt.none_int b t
  | str b=>obtain⟨t,rfl⟩:=rx;exact SeqAt.EqAt.none_str b t
  | _=>exact absurd (show false=true from fx) HK
 | bl a =>
  cases ry;cases x with
  | aZ=>cases rx;exact SeqAt.EqAt.bool_none a
  | bl b=>cases rx;exact SeqAt.EqAt.bool_bool a b
  | int b=>obtain⟨t,rfl⟩:=rx;exact SeqAt.EqAt.bool_int a b t
  | str b=>obtain⟨t,rfl⟩:=rx;exact SeqAt.EqAt.bool_str a b t
  | _=>exact absurd (show false=true from fx) HK
 | int a =>
  obtain⟨t',rfl⟩:=ry;cases x with
  | aZ=>cases rx;exact SeqAt.EqAt.int_none a t'
  | bl b=>cases rx;exact SeqAt.EqAt.int_bool a t' b
  | int b=>obtain⟨t,rfl⟩:=rx;exact SeqAt.EqAt.int_int a t' b t
  | str b=>obtain⟨t,rfl⟩:=rx;exact SeqAt.EqAt.int_str a t' b t
  | _=>exact absurd (show false=true from fx) HK
 | str a =>
  obtain⟨t',rfl⟩:=ry;cases x with
  | aZ=>cases rx;exact SeqAt.EqAt.str_none a t'
  | bl b=>cases rx;exact SeqAt.EqAt.str_bool a t' b
  | int b=>obtain⟨t,rfl⟩:=rx;exact SeqAt.EqAt.str_int a t' b t
  | str b=>obtain⟨t,rfl⟩:=rx;exact SeqAt.EqAt.str_str a t' b t
  | _=>exact absurd (show false=true from fx) HK
 | _=>exact absurd (show false=true from fy) HK
def jq (x:V)(u:Value):Bool:=match u with
 | .none=>sA .aZ x
 | .bool b=>sA (.bl b) x
 | .int i _=>sA (.int i) x
 | .str z _=>sA (.str z) x
 | _=>false
theorem zf {x y:V}{u:Value}(r:RelV y u)(f:iK y=true):jq x u=sA y x:=by
 cases y with
 | aZ=>cases r;rfl
 | bl b=>cases r;rfl
 | int i=>obtain⟨t,rfl⟩:=r;rfl
 | str z=>obtain⟨t,rfl⟩:=r;rfl
 | _=>exact absurd (show false=true from f) HK
theorem ko {x:V}:∀{xs:List V} {us:List Value},Vals xs us->xs.all iK=true->us.any (jq x)=xs.any λ y=>sA y x
 | _,_,.nil,_=>rfl
 | y::xs,u::us,.cons r t,f=>by
  rw[List.all_cons,HU] at f;rw[Jl,Jl,zf r f.1,ko t f.2]
theorem jr {A:Around}{s:Shared}{x:V}{v:Value}(rx:RelV x v)(fx:iK x=true):∀{xs:List V} {us:List Value},Vals xs us->xs.all iK=true->∀u∈us,SeqAt.EqAt A s u v (jq x u)
 | _,_,.nil,_=>λ u hu=>by cases hu
 | y::xs,u::us,.cons r t,f=>λ u' hu=>by
  rw[List.all_cons,HU] at f
  rcases Ho.mp hu with rfl | hu
  ·rw[zf r f.1];exact EA r rx f.1 fx
  ·exact jr rx fx t f.2 u' hu
def sC (x:V)(xs:List V):Bool:=xs.any λ y=>sA y x
inductive FU (K:Hl) (neg:Bool) (x:V) (y:V) (H:Hp) (Q:VK):Prop
 | mk (p xs:_) (_:y=.ref p) (_:(aT K H p xs\/au K H p xs)) (_:iK x=true) (_:xs.all iK=true) (_:Q (.bl (if neg then !sC x xs else sC x xs)) H)
theorem sD:eJ X (compareOp .In) (FU X.K false):=by
 intro pins s Hh H x y v u Q I rx ry h;obtain⟨p,xs,rfl,hq,fx,fs,q⟩:=h;cases ry
 rcases hq with hq | hq
 ·obtain⟨its,r,pl,hz⟩:=I.list hq;refine SeqAt.in_listAt (jq x) pl.isList (λ w hw=>jr rx fx r fs w (by simpa using hw)) ⟨.bl _,H,I,rfl,?_⟩;rw[show its.toArray.any (jq x)=its.any (jq x) by simp,ko r fs];exact q
 ·obtain⟨its,r,pl,hz⟩:=I.tuple hq;refine SeqAt.in_tupleAt (jq x) pl (λ w hw=>jr rx fx r fs w (by simpa using hw)) ⟨.bl _,H,I,rfl,?_⟩;rw[show its.toArray.any (jq x)=its.any (jq x) by simp,ko r fs];exact q
theorem uK:eJ X (compareOp .NotIn) (FU X.K true):=by
 intro pins s Hh H x y v u Q I rx ry h;obtain⟨p,xs,rfl,hq,fx,fs,q⟩:=h;cases ry
 rcases hq with hq | hq
 ·obtain⟨its,r,pl,hz⟩:=I.list hq;refine SeqAt.notIn_listAt (jq x) pl.isList (λ w hw=>jr rx fx r fs w (by simpa using hw)) ⟨.bl _,H,I,rfl,?_⟩;rw[show its.toArray.any (jq x)=its.any (jq x) by simp,ko r fs];exact q
 ·obtain⟨its,r,pl,hz⟩:=I.tuple hq;refine SeqAt.notIn_tupleAt (jq x) pl (λ w hw=>jr rx fx r fs w (by simpa using hw)) ⟨.bl _,H,I,rfl,?_⟩;rw[show its.toArray.any (jq x)=its.any (jq x) by simp,ko r fs];exact q
theorem aO:eR X (.builtin "len") (λ xs H Q=>∃p ys,xs=[.ref p]/\(aT X.K H p ys\/au X.K H p ys)/\Q (.int ys.length) H):=by
 intro pins s Hh H xs us Q I r h;obtain⟨p,ys,rfl,hq,q⟩:=h;obtain⟨u,rfl,rx⟩:=vals1 r;cases rx;have hn:=jn
 rcases hq with hq | hq
 ·obtain⟨its,r',pl,hz⟩:=I.list hq;have hlen:=r'.length;exact Calls.call_len_list pl.isList (by simp only[HF]<;>omega) ⟨.int ys.length,H,I.tok _,⟨s.toks+1,by rw[HF,hlen]⟩,q⟩
 ·obtain⟨its,r',pl,hz⟩:=I.tuple hq;have hlen:=r'.length;exact len_tuple pl (by simp only[HF]<;>omega) ⟨.int ys.length,H,I.tok _,⟨s.toks+1,by rw[HF,hlen]⟩,q⟩
theorem jt:eR X (.type "list") (λ xs H Q=>∃p ys,xs=[.ref p]/\(aT X.K H p ys\/au X.K H p ys)/\∀l,H l=none->Q (.ref l) (upd H l (.lst ys))):=by
 intro pins s Hh H xs us Q I r h;obtain⟨p,ys,rfl,hq,q⟩:=h;obtain⟨u,rfl,rx⟩:=vals1 r;cases rx;have fin:∀(its:List Value),Vals ys its->ys.length<=sizeLine->∀(h':Heap) (c':Nat),(∀b o',s.heap.get? b=some o'->h'.get? b=some o') ->
   h'.get? s.heap.objs.size=some { cls:=.type "list",dict:=none,data:=.seq its.toArray c',slots:=#[] }->EP X pins Hh Q (.ref s.heap.objs.size) { s with heap:=h' }:=λ its r' hz h' c' kp e =>
  ⟨.ref s.heap.objs.size,_,I.laid (t':=s.toks) kp (Hn _) (show b0 X.prog X.w _ h' _ (.lst ys) from ⟨hz,its,c',r',e⟩),rfl,q _ (I.bc.fresh (Hn _))⟩
 rcases hq with hq | hq
 ·obtain⟨its,r',pl,hz⟩:=I.list hq;have hlen:=r'.length;obtain⟨o,ho,hc,n,hd⟩:=pl.isList;exact call_list_seq p (.inl rfl) ho hc hd (λ h' c' kp e=>fin its r' hz h' c' kp e) (by simp only[HF]<;>omega)
 ·obtain⟨its,r',pl,hz⟩:=I.tuple hq;have hlen:=r'.length;obtain⟨o,ho,hc,n,hd⟩:=pl;exact call_list_seq p (.inr rfl) ho hc hd (λ h' c' kp e=>fin its r' hz h' c' kp e) (by simp only[HF]<;>omega)
theorem bL:eR X (.type "tuple") (λ xs H Q=>∃p ys,xs=[.ref p]/\((aT X.K H p ys/\∀l,H l=none->Q (.ref l) (upd H l (.tup ys)))\/(au X.K H p ys/\Q (.ref p) H))):=by
 intro pins s Hh H xs us Q I r h;obtain⟨p,ys,rfl,h⟩:=h;obtain⟨u,rfl,rx⟩:=vals1 r;cases rx
 rcases h with ⟨hq,q⟩ | ⟨hq,q⟩
 ·obtain⟨its,r',pl,hz⟩:=I.list hq;have hlen:=r'.length;refine call_tuple_list pl.isList (λ h' kp=>?_) (by simp only[HF]<;>omega);have I1:Inv X pins Hh H { s with heap:=h' }:=I.kept (t':=s.toks) kp;have I2:Inv X pins Hh (upd H h'.objs.size (.tup ys)) { s with heap:=h'.push { cls:=.type "tuple",data:=.seq its.toArray } } :=
   I1.laid (t':=s.toks) (λ b o e=>Hr _ e) (Hn _) (show b0 X.prog X.w _ _ _ (.tup ys) from ⟨hz,its,r',⟨_,Hs _ rfl,rfl,_,rfl,rfl⟩⟩)
  exact⟨.ref h'.objs.size,_,I2,rfl,q _ (I1.bc.fresh (Hn _))⟩
 ·obtain⟨its,r',pl,hz⟩:=I.tuple hq;exact call_tuple_same pl ⟨.ref p,H,I,rfl,q⟩
def EB (K:Hl)(T:String)(x:V)(H:Hp):Prop:=match x with
 | .str _=>T = "str"
 | .int _=>T = "int"
 | .ref p=>(T = "list" /\ ∃xs,aT K H p xs)\/(T = "tuple" /\ ∃o,K.lookup p=some o/\o.cls=.type "tuple" /\ o.dict=none) \/
   (T = "dict" /\ ((∃kvs,H p=some (.dK kvs))\/∃kvs,H p=some (.dT kvs)))\/(T = "set" /\ ∃S n,H p=some (.set S n))
 | _=>False
theorem zg {pins:BT}{Hh : St}{H:Hp}{s:Shared}{T:String}{x:V}{v:Value}(I:Inv X pins Hh H s)(r:RelV x v)(ty:EB X.K T x H) :
  s.TypeIs v T/\∀a,v=.ref a->∃ob,s.heap.get? a=some ob/\ob.dict=none:=by
 cases x with
 | str z =>
  obtain⟨t,rfl⟩:=r;cases (show T = "str" from ty);exact⟨typeIs_str s z t,λ _ e=>nomatch e⟩
 | int i =>
  obtain⟨t,rfl⟩:=r;cases (show T = "int" from ty);exact⟨typeIs_int s i t,λ _ e=>nomatch e⟩
 | ref p =>
  cases r
  rcases ty with ⟨rfl,xs,hq⟩ | ⟨rfl,o,hk,hc,hd⟩ | ⟨rfl,hk⟩ | ⟨rfl,S,n,hk⟩
  ·obtain⟨its,_,pl,_⟩:=I.list hq;refine⟨pl.isList.typeIs,λ a e=>?_⟩;cases e;obtain⟨o,n,e,c,hd,_⟩:=pl;exact⟨o,e,hd⟩
  ·refine⟨⟨o,I.ft p o hk,hc⟩,λ a e=>?_⟩;cases e;exact⟨o,I.ft _ o hk,hd⟩
  ·have z:∃o,s.heap.get? p=some o/\o.ExactDict:=by
    rcases hk with ⟨kvs,hk⟩ | ⟨kvs,hk⟩
    ·obtain⟨_,_,_,_,o,_,_,e,ex,_⟩:=I.bc p _ hk;exact⟨o,e,ex⟩
    ·obtain⟨_,_,_,_,o,_,_,e,ex,_⟩:=I.bc p _ hk;exact⟨o,e,ex⟩
   obtain⟨o,e,ex⟩:=z;refine⟨⟨o,e,ex.1⟩,λ a e2=>?_⟩;cases e2;exact⟨o,e,ex.2.1⟩
  ·obtain⟨o,_,_,_,e,ex,_⟩:=I.bc p _ hk;refine⟨⟨o,e,ex.1⟩,λ a e2=>?_⟩;cases e2;exact⟨o,e,ex.2.1⟩
 | _=>exact False.elim ty
def GI (K:Hl)(T:String)(r:V->List V->Hp->VK->Prop)(to:TE):TE:=λ Hh H Q=>to Hh H λ x H1=>EB K T x H1/\r x [] H1 Q
def G5 (K:Hl)(T:String)(r:V->List V->Hp->VK->Prop)(to:TE)(t:TA):TE:=λ Hh H Q=>to Hh H λ x H1=>EB K T x H1/\t Hh H1 λ xs H2=>r x xs H2 Q
variable {o e:Expr}{es:List Expr}{to:TE}{t:TA}{name:Str}{apos cpos:Pos}{T id:String}{r:V->List V->Hp->VK->Prop}
theorem EC (pa:PlainAttrs T) (slot:Slot T name id) (hty:typeOf (.builtin id)=pure (.type "method_descriptor")) (hm:Ex X id r) (ho:PE X o to)
  (hbase:attributeBase o name X.env (eval o X.env)=eval o X.env:=by rfl) (hline:(apos.endLine == cpos.line)=true:=by rfl):PE X (.Call (.Attribute o name apos) [] [] cpos) (GI X.K T r to):=by
 intro pins s Hh H Q I h;refine wpAny_Call_method0_late hbase hline (bx (ho pins s Hh H _ I h) λ v s1 ⟨x,H1,I1,r1,ty,q1⟩=>?_);obtain⟨h1,h2⟩:=zg I1 r1 ty;exact⟨T,id,pa,slot,hty,h1,h2,Calls.callWith_builtin rfl (PySem.evalArgs_none (hm pins s1 Hh H1 x [] v [] Q I1 r1 .nil q1))⟩
theorem gI (pa:PlainAttrs T) (slot:Slot T name id) (hty:typeOf (.builtin id)=pure (.type "method_descriptor")) (hm:Ex X id r) (ho:PE X o to) (ha:PA X (e::es) t)
  (hbase:attributeBase o name X.env (eval o X.env)=eval o X.env:=by rfl)
  (hfew:((backTo cpos (starEach (e::es) X.env)).all (λ x=>!x.1)&&(backToKw cpos (keywordEach [] X.env)).all (λ x=>x.1.isSome)
   && decide ((e::es).length+([]:List Keyword).length+(if ([]:List Keyword).isEmpty then 0 else 1)<30))=true:=by rfl)
  (hline:(apos.endLine == cpos.line)=true:=by rfl) (hs:starEach (e::es) X.env=(false,eval e X.env)::starEach es X.env:=by rfl) (hplain:(backTo cpos (starEach es X.env)).any (·.1)=false:=by rfl) :
  PE X (.Call (.Attribute o name apos) (e::es) [] cpos) (G5 X.K T r to t):=by
 intro pins s Hh H Q I h;refine wpAny_Call_method_late hbase hfew hline rfl (bx (ho pins s Hh H _ I h) λ v s1 ⟨x,H1,I1,r1,ty,q1⟩=>?_);obtain⟨h1,h2⟩:=zg I1 r1 ty;exists T,id,pa,slot,hty,h1,h2;have hA:=ha cpos pins s1 Hh H1 _ I1 q1;rw[hs] at hA ⊢;refine Calls.callWith_builtin (by show (false||(backTo cpos (starEach es X.env)).any (·.1))=false;rw[hplain]<;>rfl) (Calls.evalArgs_plain ?_);exact bx hA λ us s2 ⟨vs,H2,I2,r2,q2⟩=>hm pins s2 Hh H2 x vs v us Q I2 r1 r2 q2
end
def uL (X:Cx)(id:String)(r:V->List V->Hp->VK->Prop):Prop :=
 ∀(pins:BT) (s:Shared) (Hh : St) (H:Hp) (x:V) (xs:List V) (v:Value) (us:List Value) (Q:VK),Inv X pins Hh H s->RelV x v->Vals xs us->r x xs H Q ->
  wpAny (model X.prog X.w) X.A (call (.builtin id) (v::us)) (EP X pins Hh Q) X.xe s
theorem Vals.one:∀{x:V} {us:List Value},Vals [x] us->∃u,us=[u]/\RelV x u
 | _,_,.cons r .nil=>⟨_,rfl,r⟩
theorem Vals.zero:∀{us:List Value},Vals [] us->us=[]
 | _,.nil=>rfl
theorem Vals.dropLast {xs:List V}{us:List Value}(h:Vals xs us):Vals xs.dropLast us.dropLast:=by
 induction h with
 | nil=>exact .nil
 | cons r t ih =>
  cases t with
  | nil=>exact .nil
  | cons q t'=>exact .cons r ih
theorem Vals.eraseIdx:∀{xs:List V} {us:List Value} (i:Nat),Vals xs us->Vals (xs.eraseIdx i) (us.eraseIdx i)
 | _,_,_,.nil=>.nil
 | _,_,0,.cons _ t=>t
 | _,_,i+1,.cons r t=>.cons r (Vals.eraseIdx i t)
theorem ya {α : Type}(l:List α):l.eraseIdx (l.length-1)=l.dropLast:=by
 induction l with
 | nil=>rfl
 | cons a r ih =>
  cases r with
  | nil=>rfl
  | cons b r =>
   have e:(a::b::r).length-1=((b::r).length-1)+1:=by
    have h1:(a::b::r).length=r.length+2:=rfl;have h2:(b::r).length=r.length+1:=rfl;omega
   rw[e,List.eraseIdx_cons_succ,ih]
   all_goals rfl
theorem sE {α : Type}:∀(l:List α) (i:Nat),(l.eraseIdx i).length<=l.length
 | [],_=>Hn _
 | _::_,0=>Ip _
 | _::r,i+1=>Nat.succ_le_succ (sE r i)
section
variable {X:Cx}{pins:BT}{Hh : St}{H:Hp}{s:Shared}{l b:Addr}{xs ys zs:List V}
theorem Inv.uM {its its':List Value}{n:Nat}{f:Array Value->Array Value}{t':Nat}(I:Inv X pins Hh H s)(hH:H l=some (.lst xs))
  (e:s.heap.get? l=some { cls:=.type "list",data:=.seq its.toArray n }) (hf:f its.toArray=its'.toArray) (hv:Vals ys its') (hz:ys.length<=sizeLine) :
  Inv X pins Hh (upd H l (.lst ys)) { s with heap:=s.heap.update l (Obj.mapSeq f),toks:=t' }:=by
 have q:=PySem.IsL.update e f;rw[hf] at q;refine I.write (x:=l) (e:=l) (by rw[hH];exact trivial) (.inl rfl) (λ b' u hb hu=>(IE s.heap (Obj.mapSeq f) (Ne.symm hb)).trans hu) ⟨_,q⟩ ?_;exact⟨hz,its',_,hv,q⟩
theorem Inv.GJ {its:List Value}{t':Nat}(I:Inv X pins Hh H s)(hv:Vals ys its)(hz:ys.length<=sizeLine) :
  Inv X pins Hh (upd H s.heap.objs.size (.lst ys)) { s with heap:=s.heap.push { cls:=.type "list",data:=.seq its.toArray },toks:=t' } :=
 I.laid (λ _ _ q=>Hr _ q) (Hn _) ⟨hz,its,0,hv,Hs _ rfl⟩
theorem Inv.fresh (I:Inv X pins Hh H s):H s.heap.objs.size=none:=I.bc.fresh (Hn _)
theorem Inv.mF (I:Inv X pins Hh H s)(hH:H l=some (.lst xs)):xs.length<=sizeLine/\∃(its:List Value) (n:Nat),Vals xs its/\xs.length=its.length/\s.heap.get? l=some { cls:=.type "list",data:=.seq its.toArray n }:=by
 obtain⟨z,its,n,r,e⟩:=I.bc l _ hH;exact⟨z,its,n,r,r.length,e⟩
theorem AV {n:Nat}(h:n<=sizeLine):Builtin.List.listTooLong n=false:=by
 unfold Builtin.List.listTooLong;exact decide_eq_false ⋯
end
section
variable {X:Cx}
inductive Dh  (x:V) (vs:List V) (H:Hp) (Q:VK):Prop
 | mk (l xs y:_) (_:x=.ref l) (_:vs=[y]) (_:H l=some (.lst xs)) (_:xs.length<sizeLine) (_:Q .aZ (upd H l (.lst (xs++[y]))))
theorem fW:uL X "list.append" Dh:=by
 intro pins s Hh H x vs v us Q I rx rv h;obtain⟨l,xs,y,rfl,rfl,hH,hz,q⟩:=h;cases rx;obtain⟨u,rfl,ru⟩:=rv.one;obtain⟨z,its,n,r,hl,e⟩:=I.mF hH;refine call_meets F.slot_list_append ⟨_,e,rfl⟩ F.entry_list_append (F.args_list_append_2 _ _) (PySem.list_append l its.toArray n u (by rw[HF];omega)) ⟨e,?_⟩;refine⟨.aZ,_,I.uM (its':=its++[u]) hH e (by simp) (r.append (.cons ru .nil)) ?_,rfl,q⟩;rw[Ht,List.length_singleton];omega
inductive Di  (x:V) (vs:List V) (H:Hp) (Q:VK):Prop
 | mk (l b xs zs:_) (_:x=.ref l) (_:vs=[.ref b]) (_:H l=some (.lst xs)) (_:H b=some (.lst zs)) (_:xs.length+zs.length<=sizeLine) (_:Q .aZ (upd H l (.lst (xs++zs))))
theorem sF:uL X "list.extend" Di:=by
 intro pins s Hh H x vs v us Q I rx rv h;obtain⟨l,b,xs,zs,rfl,rfl,hH,hB,hz,q⟩:=h;cases rx;obtain⟨u,rfl,ru⟩:=rv.one;cases ru;obtain⟨z,its,n,r,hl,e⟩:=I.mF hH;obtain⟨z2,its2,n2,r2,hl2,e2⟩:=I.mF hB;have hsz:its.toArray.size+its2.toArray.size<=sizeLine:=by rw[HF,HF];omega
 have hlong:¬(!its.toArray.isEmpty&&Builtin.List.listTooLong (its.toArray.size+its2.toArray.size))=true:=by
  rw[AV hsz,Jm];exact HK
 refine call_meets F.slot_list_extend ⟨_,e,rfl⟩ F.entry_list_extend (F.args_list_extend_2 _ _)
  (AutoSeq1.list_extend_list_list_0 l its.toArray n b its2.toArray n2 hlong (by rw[HF];omega) ⋯) ⟨e,e2,?_⟩
 refine⟨.aZ,_,I.uM (its':=its++its2) hH e (by simp) (r.append r2) ?_,rfl,q⟩;rw[Ht];omega
inductive GK  (x:V) (vs:List V) (H:Hp) (Q:VK):Prop
 | mk (l xs y:_) (_:x=.ref l) (_:vs=[]) (_:H l=some (.lst xs)) (_:xs[xs.length-1]?=some y) (_:Q y (upd H l (.lst xs.dropLast)))
theorem ED:uL X "list.pop" GK:=by
 intro pins s Hh H x vs v us Q I rx rv h;obtain⟨l,xs,y,rfl,rfl,hH,hy,q⟩:=h;cases rx;have hus:=rv.zero;subst hus;obtain⟨z,its,n,r,hl,e⟩:=I.mF hH;obtain⟨u,hu,ru⟩:=r.get hy;have hy':its.toArray[its.toArray.size-1]?=some u:=by
  show its.toArray[its.length-1]?=some u;rw[<-Jn,<-hl];exact hu
 refine call_meets F.slot_list_pop ⟨_,e,rfl⟩ F.entry_list_pop (F.args_list_pop_1 _) (MeetsSeq.list_pop_last l its.toArray n u hy' (by rw[HF];omega)) ⟨e,?_⟩;refine⟨y,_,I.uM (its':=its.dropLast) hH e ?_ r.dropLast ?_,ru,q⟩
 ·show its.toArray.eraseIdxIfInBounds (its.toArray.size-1)=its.dropLast.toArray;rw[HF,List.eraseIdxIfInBounds_toArray,ya]
 ·rw[List.length_dropLast];omega
inductive EE  (x:V) (vs:List V) (H:Hp) (Q:VK):Prop
 | mk (l xs i k y:_) (_:x=.ref l) (_:vs=[.int i]) (_:H l=some (.lst xs)) (_:-(2 ^ 63)<=i) (_:i<2 ^ 63) (_:seqIndex? i xs.length=some k) (_:xs[k]?=some y) (_:Q y (upd H l (.lst (xs.eraseIdx k))))
theorem AW:uL X "list.pop" EE:=by
 intro pins s Hh H x vs v us Q I rx rv h;obtain⟨l,xs,i,k,y,rfl,rfl,hH,h1,h2,hk,hy,q⟩:=h;cases rx;obtain⟨u,rfl,ru⟩:=rv.one;obtain⟨t,rfl⟩:=ru;obtain⟨z,its,n,r,hl,e⟩:=I.mF hH;obtain⟨w,hw,rw'⟩:=r.get hy;refine call_meets F.slot_list_pop ⟨_,e,rfl⟩ F.entry_list_pop (F.args_list_pop_2 _ _)
  (MeetsSeq.list_pop_at l its.toArray n i t k w (fitsIndex_both h1 h2) (by rw[HF,<-hl];exact hk) (by rw[<-Jn];exact hw) (by rw[HF];omega)) ⟨e,?_⟩
 refine⟨y,_,I.uM (its':=its.eraseIdx k) hH e ?_ (r.eraseIdx k) ?_,rw',q⟩
 ·show its.toArray.eraseIdxIfInBounds k=(its.eraseIdx k).toArray;rw[List.eraseIdxIfInBounds_toArray]
 ·have:=sE xs k;omega
inductive GL  (x:V) (y:V) (H:Hp) (Q:VK):Prop
 | mk (l b xs zs:_) (_:x=.ref l) (_:y=.ref b) (_:H l=some (.lst xs)) (_:H b=some (.lst zs)) (_:xs.length+zs.length<=sizeLine) (_:∀p,H p=none->Q (.ref p) (upd H p (.lst (xs++zs))))
theorem EF:eJ X (binaryOp .Add) GL:=by
 intro pins s Hh H x y v u Q I rx ry h;obtain⟨l,b,xs,zs,rfl,rfl,hH,hB,hz,q⟩:=h;cases rx;cases ry;obtain⟨z,its,n,r,hl,e⟩:=I.mF hH;obtain⟨z2,its2,n2,r2,hl2,e2⟩:=I.mF hB;refine PySem.P.add_list e e2 ?_ (by rw[HF,HF];omega);have ea:its.toArray++its2.toArray=(its++its2).toArray:=by simp
 rw[ea];exact⟨.ref _,_,I.GJ (t':=s.toks) (r.append r2) (by rw[Ht];omega),rfl,q _ I.fresh⟩
end
section
variable {prog:Program}{w:World}{A:Around}{E:AT}{s:Shared}
end
section
variable {X:Cx}
end
end L2
namespace FW
open PySem PySem.W PySem.Calls PyProof.Rows
theorem pN {P:Params}{h:Heap}:∀(ns:List Int) (vs:List Value),WellAll P h vs (ns.map WData.int)->IntsAre vs ns:=by
 intro ns
 induction ns with
 | nil =>
  intro vs w;rw[List.map_nil] at w;cases w;exact .nil
 | cons n ns ih =>
  intro vs w;rw[HN] at w;cases w with
  | cons a b =>
   cases a;exact .cons _ _ (ih _ b)
theorem zh {l:OpenLaw}{n:Nat}(hn:l.most=some n){P:Params}{h:Heap}{args:List WData}{vals:List Value}
  (hpre:l.row.toRowW.claim.pre args=true) (hwl:WellAll P h vals args) :
  ∃a vs ns,vals=[Value.ref a]/\args=[WData.list (ns.map WData.int)]/\h.get? a=some { cls:=.type "list",data:=.seq vs.toArray }/\IntsAre vs ns/\ns.length<=n:=by
 have hsh:WShape.hasAll [] args [.list .int]=true:=(pre_splitW hpre).1;have hc:l.pre.holds [] { args:=args }=true:=(pre_splitW hpre).2;obtain⟨d,r,rfl,h1,h2⟩:=hasAllW_cons hsh;obtain rfl:=hasAllW_nil h2;obtain⟨xs,rfl,h3⟩:=hasW_list h1;obtain⟨ns,rfl⟩:=items_int h3;have hlen:ns.length<=n:=by
  unfold OpenLaw.pre at hc;have h4:(WTm.not (.lt (.lit (.int (n:Int))) (.len (.arg 0)))).holds [] { args:=[.list (ns.map .int)] }=true:=by
   have h4:=(holds_andW hc).1;rw[hn] at h4;exact h4
  have h5:=condW_of h4 (w_not (w_lt w_lit (w_len_list (w_arg rfl))));rw[Hk] at h5;refine Nat.le_of_not_lt λ q=>?_
  have q':(n:Int)<((ns.length:Nat):Int):=by omega
  first
   | (rw[decide_eq_true q'] at h5;exact absurd h5 ⋯)
   | (simp at h5;omega)
 cases hwl with
 | cons w1 w2 =>
  cases w2;cases w1 with
  | list ho hall=>exact⟨_,_,ns,rfl,rfl,ho,pN ns _ hall,hlen⟩
theorem zj (l:OpenLaw)(args:List WData):l.row.toRowW.claim.post args (.bool true) args=true :=
 postW_of (r:=l.row.toRowW) (X:=(true == true))
  (show WShape.has [] (.bool true) .bool=true by first | rfl | decide | simp[WShape.has,WShape.arms,WShape.armsAll])
  (show (WTm.eq .res (.lit (.bool true))).value [] { args:=args,res:=some (.bool true),after:=args }=some (.bool (true == true)) from w_eq_bool (w_res rfl) w_lit) rfl
theorem vX {l:OpenLaw}{n:Nat}{q:Program}{loose:List Str}{XP:(Str->Option Value)->Heap->Prop}{YP:World->Heap->Prop}{d:DefRec}
  (hn:l.most=some n) (hdf:d.params.defaults=[])
  (call:∀(w:World) (eQ s₁ : Shared) (mg mb:Ch) (fa:Addr) (o:Obj) (pm cd doc:Value) (a:Addr) (vs:List Value) (ns:List Int),
   Ground q loose [] XP w eQ mg mb s₁.heap->YP w s₁.heap ->
   s₁.heap.get? fa=some o->o.data=.func (docDef d.name d.params d.body d.scope pm cd doc)->s₁.heap.CodeRec cd d.name->mg d.name=some (.ref fa) ->
   s₁.heap.get? a=some { cls:=.type "list",data:=.seq vs.toArray }->IntsAre vs ns->ns.length<=n->s₁.gens = #[] ->
   codeAny (model l.prog w) callerA (.call (.ref fa) ⟨[.ref a],[]⟩) (λ r s'=>r=.ok (.ret (.bool true))/\OldK s₁.heap s'.heap/\s'.os=s₁.os/\AllBare s'.gens) s₁) :
  WalkO q loose XP YP l.row.toRowW d [] (λ f vs=>PySem.call f vs):=by
 intro w eQ s₁ mg mb G Y fa o pm cd doc dV kV ho hd hcd hD hmg hg args vals as hpre hlay hrd hwl hlo;obtain rfl:dV=.none:=Dflts.none hD hdf;obtain rfl:kV=.none:=Dflts.noKw hD;obtain⟨a,vs,ns,rfl,rfl,hobj,hints,hlen⟩:=zh hn hpre hwl;refine enter_call (Kk (call w eQ s₁ mg mb fa o pm cd doc a vs ns G Y ho (fd_plain hd) hcd hmg hobj hints hlen hg) λ r s' hq=>?_);obtain⟨rfl,h2,h3,h4⟩:=hq;exact⟨.inl ⟨.bool true,.bool true,[],rfl,λ _=>rfl,.bool true,zj l _,λ _=>⟨IF.nil,λ _ hm=>(nomatch hm)⟩⟩,h2,h3,h4⟩
section
variable {prog:Program}{w:World}{A:Around}{E:AT}{s:Shared}{K:Frag}
def ledger (h:Heap)(L d:Addr):List (Addr×Obj):=(HY h.objs.size).filterMap λ a=>if a=L\/a=d then none else (h.get? a).map λ o=>(a,o)
end
end FW
namespace L2
open PySem PySem.Spec PyProof.Rows
theorem mG:∀{vs:List Value} {ns:List Int},IntsAre vs ns->Vals (ns.map V.int) vs
 | _,_,.nil=>.nil
 | _,_,.cons n t h=>.cons ⟨t,rfl⟩ (mG h)
def AX (H:Hp):Prop:=∀b,H b=none\/∃o xs,H b=some (.eC o (.lst xs))
theorem AY {P:Program}{w:World}{K:Hl}{mg mb:Ch}{CX:mD}{k:Nat}{fa a:Addr}{fd:FuncData}{x:Str}{sp:Sp}{s₁ : Shared}{vs:List Value}{ns:List Int}
    (KX:K.In s₁.heap) (hns:s₁.heap.Ns mainGlobals mg) (hb:s₁.heap.Ns builtinsNs mb) (hbb:∀x:Str,x ≠ "__name__" -> mb x=bootBuiltins x) (hlim:s₁.heap.NoLimit) (hg:s₁.gens = #[])
    (ha:s₁.heap.get? a=some { cls:=.type "list",data:=.seq vs.toArray }) (hi:IntsAre vs ns) (hl:ns.length<=sizeLine) (hr:dz k callerA)
    (F:∀base:Heap,K.In base->base.Ns mainGlobals mg->bA P w K mg base CX k fa fd [x] sp) (hbind:∀(s:Shared) (u:Value),BindsTo s fd ⟨[u],[]⟩ [(x,u)])
    (hsp:∀H:Hp,AX H->aT K H a (ns.map V.int)->sp [.ref a] H (λ v _=>v=.bl true) λ _ _ _=>False)
    (hCX:∀H e s',CX [] H s₁ (λ _ _ _=>False) e s'->False) :
    codeAny (model P w) callerA (.call (.ref fa) ⟨[.ref a],[]⟩) (λ r s'=>r=.ok (.ret (.bool true))/\OldK s₁.heap s'.heap/\s'.os=s₁.os/\AllBare s'.gens) s₁:=by
  have rv:=mG hi;have lenV:=hi.length;have core:∀H:Hp,AX H->aT K H a (ns.map V.int)->eS P w H s₁.heap->(∀b,H b≠none->b=a)->(H a≠none->K.lookup a=none) ->
      codeAny (model P w) callerA (.call (.ref fa) ⟨[.ref a],[]⟩) (λ r s'=>r=.ok (.ret (.bool true))/\OldK s₁.heap s'.heap/\s'.os=s₁.os/\AllBare s'.gens) s₁:=by
    intro H hO hS bc hA hK;have base_of:∀{b:Addr} {o:Obj},s₁.heap.get? b=some o->H b=none->(kP s₁.heap H).get? b=some o:=λ e n=>Av e n
    have noA:∀{b:Addr} {o:Obj} {es:Array DictEntry} {ep:Nat},s₁.heap.get? b=some o->o.data=.dict es ep->H b=none:=λ {b o es ep} e d=>by
      cases q:H b with
      | none=>rfl
      | some u =>
        have e':b=a:=hA b (by rw[q];simp);subst e';rw[ha] at e;cases e;have d':Data.seq vs.toArray _=Data.dict es ep:=d;cases d'
    have nsK:∀{b:Addr} {m:Ch},s₁.heap.Ns b m->(kP s₁.heap H).Ns b m:=λ {b m} ⟨o,es,ep,e,d,r⟩=>⟨o,es,ep,base_of e (noA e d),d,r⟩
    have hKb:K.In (kP s₁.heap H):=λ b o e=>base_of (KX b o e) (by
      cases q:H b with
      | none=>rfl
      | some u =>
        have e':b=a:=hA b (by rw[q];simp);subst e';rw[hK (by rw[q];simp)] at e;cases e)
    have hM:Mod K mg (kP s₁.heap H):=⟨hKb,nsK hns,⟨mb,nsK hb,hbb⟩,let ⟨mc,h1,h2⟩:=hlim;⟨mc,nsK h1,h2⟩⟩;have e0:oW P w K mg (kP s₁.heap H) callerA [] s₁ H:=⟨rfl,hM,λ b o e=>CZ e,Nat.le_of_eq (yV _ _),trivial,λ b hb=>absurd (show b∈([]:List Addr) from hb) (by simp),bc,.of_eq hg⟩;refine Kk ((F _ hKb (nsK hns)).run callerA [] s₁ H ⟨[.ref a],[]⟩ [.ref a] [.ref a] _ _ hr e0 (hbind s₁ (.ref a)) (.cons rfl .nil) (hsp H hO hS)) λ r s' h=>?_
    cases r with
    | error e=>exact (hCX H e s' h).elim
    | ok fl =>
      cases fl with
      | next=>exact False.elim h
      | brk=>exact False.elim h
      | cont=>exact False.elim h
      | ret u =>
        obtain⟨v,H',os,bare,un,hok',r',q⟩:=h;have q':v=.bl true:=q;subst q';obtain rfl:u=Value.bool true:=r';refine⟨rfl,OldK.of_keep λ b o e=>?_,os,bare⟩;cases q:H b with
        | none=>exact un.keep b o e q (by intro z;exact absurd (show b∈([]:List Addr) from z) (by simp)) (by simp)
        | some u =>
          rcases hO b with z | ⟨ob,xs,z⟩
          . rw[q] at z;cases z
          . have z2:=un.iW b ob _ z
            obtain⟨e1,_⟩:=bc b _ z;obtain⟨e2,_⟩:=hok' b _ z2;rw[e] at e1;cases e1;exact e2
  cases hk:K.lookup a with
  | some o =>
    have e:=KX a o hk;rw[ha] at e;cases e;refine core (λ _=>none) (λ _=>.inl rfl) (.inr ⟨_,vs.toArray,_,hk,rfl,rfl,rfl,by rw[HF,lenV];exact hl,by simpa using rv⟩) (λ b u z=>by have z':(none:Option HO)=some u:=z;cases z') (λ b z=>absurd rfl z) λ z=>absurd rfl z
  | none =>
    refine core (λ b=>if b=a then some (.eC { cls:=.type "list",data:=.seq vs.toArray } (.lst (ns.map V.int))) else none) (λ b=>?_) (.inl (.inr ⟨{ cls:=.type "list",data:=.seq vs.toArray },if_pos rfl⟩)) (λ b u z=>?_) (λ b z=>?_) λ _=>hk
    . by_cases hb:b=a
      . exact .inr ⟨_,_,if_pos hb⟩
      . exact .inl (if_neg hb)
    . by_cases hb:b=a
      . have z':=(if_pos hb).symm.trans z
        cases z';subst hb;exact⟨ha,by rw[Hk];exact hl,vs,_,rv,ha⟩
      . have z':=(if_neg hb).symm.trans z
        cases z'
    . by_cases hb:b=a
      . exact hb
      . exact absurd (if_neg hb) z
abbrev KOf {K:Hl}{h:Heap}(_:K.In h):Hl:=K
theorem Dj {l:PySem.W.OpenLaw}{n k:Nat}{q:Program}{loose:List Str}{XP:(Str->Option Value)->Heap->Prop}{YP:World->Heap->Prop}{d:DefRec}{K:Params->Hl}{CX:World->mD}{sp:World->Sp}{x:Str}
  (hn:l.most=some n) (hn2:n<=sizeLine) (hdf:d.params.defaults=[]) (hr:dz k callerA)
  (hY:∀(w:World) (h:Heap),YP w h->(K w.params).In h)
  (F:∀(w:World) (mg:Ch) (fa:Addr) (h:Heap),(K w.params).In h->h.Ns mainGlobals mg->mg d.name=some (.ref fa) ->
   ∃fd:FuncData,(∀(s:Shared) (u:Value),BindsTo s fd ⟨[u],[]⟩ [(x,u)]) /\
    ∀base:Heap,(K w.params).In base->base.Ns mainGlobals mg->bA l.prog w (K w.params) mg base (CX w) k fa fd [x] (sp w))
  (hsp:∀(w:World) (H:Hp) (a:Addr) (ns:List Int),ns.length<=n->AX H->aT (K w.params) H a (ns.map V.int)->sp w [.ref a] H (λ v _=>v=.bl true) λ _ _ _=>False)
  (hCX:∀(w:World) (H:Hp) (s:Shared) (e:Value) (s':Shared),CX w [] H s (λ _ _ _=>False) e s'->False) :
  PySem.W.WalkO q loose XP YP l.row.toRowW d [] (λ f vs=>PySem.call f vs):=by
 refine FW.vX hn hdf λ w eQ s₁ mg mb fa o pm cd doc a vs ns G Y ho hd hcd hmg hobj hints hlen hg=>?_
 have KX:=hY w _ Y;obtain⟨fd,hb,hF⟩:=F w mg fa _ KX G.T.g hmg;exact AY KX G.T.g G.T.b G.T.builtins G.T.nolimit hg hobj hints (Hu hlen hn2) hr hF hb (λ H hO hS=>hsp w H a ns hlen hO hS) λ H e s'=>hCX w H s₁ e s'
def inClass (s:Stmt)(j:Nat):Stmt:=match s with
 | .ClassDef _ _ _ body _ _ _ _ _ _ _=>body.getD j (.Pass ⟨0,0,0,0⟩)
 | _=>.Pass ⟨0,0,0,0⟩
def eE (s:Stmt):Arguments:=match s with
 | .FunctionDef _ a _ _ _ _ _ _ _ _=>a
 | _=>{ posonlyargs:=[],args:=[],vararg:=none,kwonlyargs:=[],kw_defaults:=[],kwarg:=none,defaults:=[] }
def dE (s:Stmt):List Stmt:=match s with
 | .FunctionDef _ _ b _ _ _ _ _ _ _=>b
 | _=>[]
def aI (s:Stmt):Scope:=match s with
 | .FunctionDef _ _ _ _ _ _ sc _ _ _=>sc
 | _=>{ kind:=.function,names:=[],isGenerator:=false,isCoroutine:=false }
abbrev bY:mD:=λ _ _ _ _ _ _=>False
abbrev E0:XK:=λ _ _ _=>False
theorem yb {X:Cx}:Passes bY X E0:=λ _ _ _ _ _ _ _ h=>h.elim
structure b4 (K:Hl) (x qual:Str) (st:Stmt) (f:Addr) (fd:FuncData):Prop where
 ex:∃(oc:Value) (od:Option Addr) (kV doc pm:Value) (an:Option Addr) (cdv ct:Value) (osl:Cl),
  fd=Ia x qual (eE st) (dE st) (aI st) .none kV doc pm an cdv ct/\K.lookup f=some ⟨oc,od,.func fd,osl⟩/\IT K cdv qual=true
 kp:Iw K (.ref f)=true
section
variable {P:Program}{w:World}{K:Hl}{mg:Ch}{base:Heap}
theorem b4.ok {x qual:Str}{st:Stmt}{f:Addr}{fd:FuncData}{N ps:List Str}{k:Nat}{sp:Sp}(F:b4 K x qual st f fd)(S:aV N ps (aI st))(len:∀vs H Q E,sp vs H Q E->vs.length=ps.length)
  (hbody:∀(cdv:Value) (A:Around) (outer:List Env) (s:Shared) (H:Hp) (vs:List V) (Q:VK) (E:XK),dz k (A.deeper (envOfC qual (aI st) s.heap.objs.size f cdv))->sp vs H Q E ->
   ∃t,ji (oX bY P w K mg base N qual (aI st) f cdv A outer s H E).wK (dE st) t/\t { nx:=λ _ H'=>Q .aZ H',rt:=Q } (start N vs) H):bA P w K mg base bY (k+1) f fd ps sp:=by
 obtain⟨oc,od,kV,doc,pm,an,cdv,ct,osl,rfl,lk,hcd⟩:=F.ex;refine CC lk hcd S len λ A outer s H vs Q E hr hsp=>?_
 obtain⟨t,h,q⟩:=hbody cdv A outer s H vs Q E hr hsp;exact⟨t,h.wK,q⟩
theorem b4.binds {x qual:Str}{st:Stmt}{f:Addr}{fd:FuncData}{ps:List Str}(F:b4 K x qual st f fd)
  (h:∀(kV doc pm:Value) (an:Option Addr) (cdv ct:Value) (us:List Value),us.length=ps.length->bindArgs (Ia x qual (eE st) (dE st) (aI st) .none kV doc pm an cdv ct) ⟨us,[]⟩=pure (ps.zip us)):Binds K fd ps []:=by
 obtain⟨oc,od,kV,doc,pm,an,cdv,ct,osl,rfl,lk,hcd⟩:=F.ex;exact .all (h kV doc pm an cdv ct)
theorem zk {x qual:Str}{st:Stmt}{f:Addr}{oc:Value}{od an:Option Addr}{osl:Cl}{kV doc pm cdv ct:Value}(l:K.lookup f=some ⟨oc,od,.func (Ia x qual (eE st) (dE st) (aI st) .none kV doc pm an cdv ct),osl⟩)
  (c:IT K cdv qual=true) (k:Iw K (.ref f)=true):b4 K x qual st f (Ia x qual (eE st) (dE st) (aI st) .none kV doc pm an cdv ct):=⟨⟨oc,od,kV,doc,pm,an,cdv,ct,osl,rfl,l,c⟩,k⟩
end
theorem dW {A:Around}{k:Nat}(hr:dz k A):A.units+1<cLine:=Jo (Nat.add_le_add_left (by decide:1<=64) _) hr.units
theorem bB {n:Nat}(h:n<=1000):n<sizeLine:=Jo h ⋯
section
variable {X:Cx}
theorem pv (i:Nat){x:Str}{pos:Pos}(hN:X.N[i]?=some x:=by rfl)(hv:Ee X.env.scope x:=by first | exact Hj rfl | exact Hz (Hj rfl) | exact Hz (Hz rfl))(hd:(x == ("__debug__" : Str))=false:=by decide)
  (hcd:(x == ("__classdict__" : Str))=false:=by decide):PE X (.Name x pos) (oR i):=Ef hN hv hd hcd
end
theorem br {A B:Prop}(h:B):if false=true then A else B:=by
 rw[if_neg HK];exact h
theorem bf {A B:Prop}(h:A):if true=true then A else B:=by
 rw[if_pos rfl];exact h
theorem b5 {c A B:Prop}[Decidable c](h1:c->A)(h2:¬c->B):if c then A else B:=by
 by_cases h:c
 ·rw[if_pos h];exact h1 h
 ·rw[if_neg h];exact h2 h
def ah (H H':Hp):Prop:=∀b o,H b=some o->H' b=some o
theorem ah.refl (H:Hp):ah H H:=λ _ _ h=>h
theorem ah.trans {H H1 H2:Hp}(a:ah H H1)(b:ah H1 H2):ah H H2:=λ c o h=>b c o (a c o h)
theorem ah.free {H H':Hp}(e:ah H H'){l:Addr}(h:H' l=Option.none):H l=Option.none:=by
 cases q:H l with
 | none=>rfl
 | some o =>
  rw[e l o q] at h;cases h
theorem ah.seq {K:Hl}{H H':Hp}{a:Addr}{xs:List V}(e:ah H H')(h:aT K H a xs):aT K H' a xs:=by
 rcases h with (h | ⟨o,h⟩) | h
 ·exact .inl (.inl (e _ _ h))
 ·exact .inl (.inr ⟨o,e _ _ h⟩)
 ·exact .inr h
section
variable {X:Cx}
theorem Dk:eJ X (binaryOp .Mult) (rI IntMulOk λ i j=>.int (i*j)):=wN λ _ _ _ _ _ _ _ hc q=>mul_int q hc
def FA (_i j:Int):Prop:=0<j/\j.natAbs.log2<9000
theorem AZ:eJ X (binaryOp .FloorDiv) (rI FA λ i j=>.int (i / j)):=wN λ i j _ _ _ _ _ hc q=>by
 have h1:(0:Int)<j:=hc.1;exact floordiv_int ⋯ (by rw[Int.fdiv_eq_ediv_of_nonneg i ⋯];exact q) (.inl (PyProof.noPylong_of_log2 hc.2))
inductive GN (K:Hl) (xs:List V) (H:Hp) (Q:VK):Prop
 | mk (x T t b:_) (_:xs=[x,.ty T]) (_:hX K H x t) (_:PySem.W.kitOne K t (.type T)=some b) (_:Q (.bl b) H)
theorem A0:eR X (.builtin "isinstance") (GN X.K):=by
 intro pins s Hh H vs us Q I rv h;obtain⟨x,T,t,b,rfl,ty,e,q⟩:=h;obtain⟨u,w',rfl,ru,rw'⟩:=vals2 rv;cases (show w' = Value.type T from rw');exact za I ru ty e λ tk=>⟨.bl b,H,I.tok tk,rfl,q⟩
structure Own (P:Program) (w:World) (K:Hl) (mg:Ch) (base:Heap) (x:Str) (k:Nat) (ps:List Str) (sp:Sp):Prop where
 ex:∃f fd,bA P w K mg base bY k f fd ps sp/\mg x=some (.ref f)/\Iw K (.ref f)=true/\Binds K fd ps []
variable {x:Str}{k:Nat}{ps:List Str}{sp:Sp}{e:Expr}{es:List Expr}{t:TA}{p pos:Pos}
theorem aw (o:Own X.prog X.w X.K X.mg X.base x k ps sp)(hr:dz k X.A)(hg:Gl X x)(ha:PA X (e::es) t)
  (hdb:(x == ("__debug__" : Str))=false:=by decide) (he:starEach (e::es) X.env=(false,eval e X.env)::starEach es X.env:=by rfl)
  (hpl:(backTo pos (starEach es X.env)).any (·.1)=false:=by rfl):PE X (.Call (.Name x p) (e::es) [] pos) (xX sp [] E0 t):=by
 obtain⟨f,fd,F,hm,hk,hb⟩:=o.ex;exact C9 F hr hg hm hk hb .nil yb ha hdb he hpl
end
theorem cg {α : Type}{x:α}{xs:List α}:eY (x::xs) 0=some x:=bH (j:=0) rfl
theorem cB {α : Type}{x y:α}{xs:List α}:eY (x::y::xs) 1=some y:=bH (j:=1) rfl
theorem at2 {α : Type}{x y z:α}{xs:List α}:eY (x::y::z::xs) 2=some z:=bH (j:=2) rfl
theorem G6 {α : Type}{x y z u:α}{xs:List α}:eY (x::y::z::u::xs) 3=some u:=bH (j:=3) rfl
theorem yc {α : Type}{xs:List α}{i:Int}(h0:0<=i)(h1:i<xs.length):∃v,eY xs i=some v/\v∈xs:=by
 obtain⟨j,rfl⟩:∃j:Nat,i=j:=⟨i.toNat,by omega⟩;have hj:j<xs.length:=by omega
 exact⟨xs[j],bH (by simp[hj]),Ik hj⟩
theorem bM:bootBuiltins "len" = some (.builtin "len"):=by decide
theorem uN:bootBuiltins "min" = some (.builtin "min"):=by decide
theorem EG:bootBuiltins "max" = some (.builtin "max"):=by decide
theorem tT:bootBuiltins "isinstance" = some (.builtin "isinstance"):=by decide
theorem ju:bootBuiltins "int" = some (.type "int"):=by decide
theorem Dl:bootBuiltins "bool" = some (.type "bool"):=by decide
theorem cL:bootBuiltins "tuple" = some (.type "tuple"):=by decide
theorem qU:bootBuiltins "list" = some (.type "list"):=by decide
def cy (H:Hp)(b:Addr):Prop:=∃x y:Int,H b=some (.lst [.int x,.int y])/\0<=y/\y<2147483648
def Fix (b:Addr)(H H':Hp):Prop:=∀c o,H c=some o->c≠b->H' c=some o
theorem Fix.refl (b:Addr)(H:Hp):Fix b H H:=λ _ _ h _=>h
theorem Fix.trans {b:Addr}{H H1 H2:Hp}(u:Fix b H H1)(v:Fix b H1 H2):Fix b H H2:=λ c o h n=>v c o (u c o h n) n
theorem Fix.CF {b:Addr}{H:Hp}{o:HO}:Fix b H (upd H b o):=λ c u h n=>by rw[av n];exact h
theorem Fix.new {b p:Addr}{H:Hp}{o:HO}(hp:H p=none):Fix b H (upd H p o):=λ c u h _=>by rw[av (aQ h hp)];exact h
theorem Fix.of_same {b:Addr}{H H':Hp}(h:ah H H'):Fix b H H':=λ c o e _=>h c o e
theorem ah.new {p:Addr}{H:Hp}{o:HO}(hp:H p=none):ah H (upd H p o):=λ c u h=>by rw[av (aQ h hp)];exact h
theorem cy.new {b p:Addr}{H:Hp}{o:HO}(h:cy H b)(hp:H p=none):cy (upd H p o) b:=by
 obtain⟨x,y,e,q⟩:=h;exact⟨x,y,by rw[av (aQ e hp)];exact e,q⟩
theorem cy.same {b:Addr}{H H':Hp}(h:cy H b)(s:ah H H'):cy H' b:=by
 obtain⟨x,y,e,q⟩:=h;exact⟨x,y,s _ _ e,q⟩
theorem og {α : Type}{x0:α}:[x0].length<=sizeLine:=by show 1<=sizeLine;decide
theorem ln2 {α : Type}{x0 x1:α}:[x0,x1].length<=sizeLine:=by show 2<=sizeLine;decide
theorem sG {α : Type}{x0 x1 x2:α}:[x0,x1,x2].length<=sizeLine:=by show 3<=sizeLine;decide
theorem EH {α : Type}{x0 x1 x2 x3 x4:α}:[x0,x1,x2,x3,x4].length<=sizeLine:=by show 5<=sizeLine;decide
theorem G7 {α : Type}{x0 x1 x2 x3 x4 x5 x6:α}:[x0,x1,x2,x3,x4,x5,x6].length<=sizeLine:=by show 7<=sizeLine;decide
theorem ah.fK {b:Addr}{H H1 H2:Hp}(s:ah H H1)(n:H b=none)(f:Fix b H1 H2):ah H H2:=λ c o e=>f c o (s c o e) (aQ e n)
theorem cy.bK {b p:Addr}{H:Hp}{xs:List V}(h:cy H b)(e:H p=some (.tup xs)):p≠b:=by
 obtain⟨x,y,e1,_⟩:=h;exact bP e e1 (by intro z;cases z)
theorem cy.d6 {b p:Addr}{H:Hp}(h:cy H b)(e:H p=none):p≠b:=by
 obtain⟨x,y,e1,_⟩:=h;exact λ z=>aQ e1 e z.symm
inductive CG (K:Hl) (vs:List V) (H:Hp) (Q:VK) (_:XK):Prop
 | mk (a:Addr) (ns:List Int) (k:Int) (_:vs=[.ref a,.int k]) (_:aT K H a (ns.map V.int)) (_:0<=k) (_:∀b H',H b=none->cy H' b->ah H H'->Q (.ref b) H')
inductive fL  (vs:List V) (H:Hp) (Q:VK) (_:XK):Prop
 | mk (b:Addr) (m:Int) (_:vs=[.ref b,.int m]) (_:cy H b) (_:(0<m/\m.natAbs.log2<9000)) (_:∀r H',0<=r->r<m->cy H' b->Fix b H H'->Q (.int r) H')
inductive ur (K:Hl) (vs:List V) (H:Hp) (Q:VK) (_:XK):Prop
 | mk (a:Addr) (ns:List Int) (_:vs=[.ref a]) (_:aT K H a (ns.map V.int)) (_:ns.length<=63) (_:∀H',Q (.bl true) H')
def kq (cells:List (Str×Addr)):List (Str×NameKind)->List (Str×Addr)->List (Str×Addr)
 | [],cs=>cs
 | (n,k)::r,cs=>kq cells r (if k == .free then (n,(cells.lookup n).getD 0)::cs else cs)
theorem pO {scope:Scope}{env:Env}(hf:∀y∈scope.names,y.2=.free->∃c,env.cells.lookup y.1=some c):closureFor scope env=pure (kq env.cells scope.names []):=by
 have key:∀(names:List (Str×NameKind)) (cs:List (Str×Addr)),(∀y∈names,y.2=.free->∃c,env.cells.lookup y.1=some c) ->
   (forIn names cs λ x r=>match x with
    | (name,kind)=>if (kind == NameKind.free)=true then (do let a <-cellOf env name;pure (ForInStep.yield ((name,a)::r))) else pure (ForInStep.yield r):Sem (List (Str×Addr)))=pure (kq env.cells names cs):=by
  intro names
  induction names with
  | nil=>intro cs _;rfl
  | cons y r ih =>
   intro cs hy;obtain⟨n,k⟩:=y;have ih':=λ cs=>ih cs λ z hz=>hy z (Hx _ hz)
   rw[IG];by_cases hk:(k == NameKind.free)=true
   ·have e:k=.free:=by simpa using hk
    obtain⟨c,hc⟩:=hy (n,k) Hv e;have hc':env.cells.lookup n=some c:=hc;simp only[hk,if_true,cellOf,hc',pure_bind,kq,Option.getD_some];exact ih' _
   ·have hk':(k == NameKind.free)=false:=by simpa using hk
    simp only[hk',IB,if_false,pure_bind,kq];exact ih' _
 unfold closureFor;have e:=key scope.names [] hf;show ((forIn scope.names ([]:List (Str×Addr)) λ x r=>match x with
    | (name,kind)=>if (kind == NameKind.free)=true then (do let a <-cellOf env name;pure (ForInStep.yield ((name,a)::r))) else pure (ForInStep.yield r):Sem (List (Str×Addr))) >>= λ r=>pure r)=_
 rw[e,pure_bind]
theorem mH {cells:List (Str×Addr)}:∀(names:List (Str×NameKind)) (cs:List (Str×Addr)),(∀y∈names,y.2=.free->∃c,cells.lookup y.1=some c) ->
  (∀x c,cs.lookup x=some c->cells.lookup x=some c)->∀x c,(kq cells names cs).lookup x=some c->cells.lookup x=some c
 | [],_,_,h,x,c,e=>h x c e
 | (n,k)::r,cs,hf,h,x,c,e=>by
  refine mH r _ (λ y hy=>hf y (Hx _ hy)) (λ z d hz=>?_) x c e;by_cases hk:(k == NameKind.free)=true
  ·rw[if_pos hk] at hz;obtain⟨c',hc⟩:=hf (n,k) Hv (by simpa using hk);have hc':cells.lookup n=some c':=hc;rw[IH] at hz;cases hzn:z == n with
   | true =>
    rw[hzn] at hz;have:z=n:=by simpa using hzn
    subst this;rw[hc'] at hz ⊢;simpa using hz
   | false=>rw[hzn] at hz;exact h z d hz
  ·rw[if_neg hk] at hz;exact h z d hz
theorem qV {cells:List (Str×Addr)}{x:Str}:∀(names:List (Str×NameKind)) (cs:List (Str×Addr)),((x,NameKind.free)∈names\/∃c,cs.lookup x=some c)->∃c,(kq cells names cs).lookup x=some c
 | [],_,h=>by
  rcases h with h | h
  ·cases h
  ·exact h
 | (n,k)::r,cs,h=>by
  refine qV r _ ?_;by_cases hk:(k == NameKind.free)=true
  ·rw[if_pos hk];cases hxn:x == n with
   | true=>exact .inr ⟨_,by rw[IH,hxn]⟩
   | false =>
    rcases h with h | ⟨c,h⟩
    ·rcases Ho.mp h with h | h
     ·have:x=n:=(Prod.mk.inj h).1;subst this;simp at hxn
     ·exact .inl h
    ·exact .inr ⟨c,by rw[IH,hxn];exact h⟩
  ·rw[if_neg hk]
   rcases h with h | h
   ·rcases Ho.mp h with h | h
    ·have:NameKind.free=k:=(Prod.mk.inj h).2;subst this;simp at hk
    ·exact .inl h
   ·exact .inr h
theorem jv {env:Env}{x:Str}{k:NameKind}(hk:k=.cell\/k=.free):∀{names:List (Str×NameKind)},(∀y∈names,y.2≠.cell) ->
  (names.map λ (n,k)=>if (k == NameKind.free&&env.scope.kind == .function&&env.kindOf n == some .cell) then (n,NameKind.cell) else (n,k)).lookup x=some k->(x,NameKind.free)∈names
 | [],_,h=>by simp at h
 | (n,q)::r,hc,h=>by
  have ih:=jv (env:=env) (x:=x) hk (names:=r) (λ y hy=>hc y (Hx _ hy));have h':Im x ((if (q == NameKind.free&&env.scope.kind == .function&&env.kindOf n == some .cell)=true then (n,NameKind.cell) else (n,q))::_)=some k:=h;by_cases hq:(q == NameKind.free&&env.scope.kind == .function&&env.kindOf n == some .cell)=true
  ·rw[if_pos hq,IH] at h';have eq:q=.free:=by
    rw[HU,HU] at hq;simpa using hq.1.1
   cases hxn:x == n with
   | true =>
    have:x=n:=by simpa using hxn
    subst this;subst eq;exact Hv
   | false=>rw[hxn] at h';exact Hx _ (ih h')
  ·rw[if_neg hq,IH] at h';cases hxn:x == n with
   | true =>
    rw[hxn] at h';have:x=n:=by simpa using hxn
    subst this;have e:q=k:=HB.inj h';subst e
    rcases hk with hk | hk
    ·exact absurd hk (hc (x,q) Hv)
    ·subst hk;exact Hv
   | false=>rw[hxn] at h';exact Hx _ (ih h')
theorem mI {env:Env}{x:Str}:∀{names:List (Str×NameKind)},names.lookup x=some .free ->
  (names.map λ (n,k)=>if (k == NameKind.free&&env.scope.kind == .function&&env.kindOf n == some .cell) then (n,NameKind.cell) else (n,k)).lookup x=some .cell \/
  (names.map λ (n,k)=>if (k == NameKind.free&&env.scope.kind == .function&&env.kindOf n == some .cell) then (n,NameKind.cell) else (n,k)).lookup x=some .free
 | [],h=>by simp at h
 | (n,q)::r,h=>by
  have ih:=mI (env:=env) (x:=x) (names:=r);show Im x ((if (q == NameKind.free&&env.scope.kind == .function&&env.kindOf n == some .cell)=true then (n,NameKind.cell) else (n,q))::_)=some .cell \/
   Im x ((if (q == NameKind.free&&env.scope.kind == .function&&env.kindOf n == some .cell)=true then (n,NameKind.cell) else (n,q))::_)=some .free
  rw[IH] at h;by_cases hq:(q == NameKind.free&&env.scope.kind == .function&&env.kindOf n == some .cell)=true
  ·rw[if_pos hq,IH];cases hxn:x == n with
   | true=>exact .inl rfl
   | false=>rw[hxn] at h;exact ih h
  ·rw[if_neg hq,IH];cases hxn:x == n with
   | true=>rw[hxn] at h;exact .inr h
   | false=>rw[hxn] at h;exact ih h
def hZ (X:Cx)(scope:Scope)(C:Addr)(N':List Str)(fp:List Addr)(s₁ : Shared)(H₁ : Hp):Cx where
 prog:=X.prog
 w:=X.w
 K:=X.K
 mg:=X.mg
 base:=X.base
 A:=X.A
 N:=N'
 eQ:=s₁
 kQ:=H₁
 env:=compEnvC scope (kq X.env.cells scope.names []) C X.env
 outer:=X.stack
 stack:=X.stack
 ex:=fp
 fn:=λ _=>false
 calm:=X.calm
 pn:=[]
 xe:=λ _ _=>False
def ir (X:Cx)(scope:Scope):List Str->List Nat->Prop
 | [],[]=>True
 | x::fr,j::js=>(X.N[j]?=some x/\(X.env.kindOf x=some .cell\/X.env.kindOf x=some .free)/\scope.names.lookup x=some .free)/\ir X scope fr js
 | _,_=>False
theorem ir.len {X:Cx}{scope:Scope}:∀{fr:List Str} {js:List Nat},ir X scope fr js->fr.length=js.length
 | [],[],_=>rfl
 | _::_,_::_,h=>by simp[ir.len h.2]
 | [],_::_,h=>h.elim
 | _::_,[],h=>h.elim
theorem ir.mem {X:Cx}{scope:Scope}{x:Str}:∀{fr:List Str} {js:List Nat},ir X scope fr js->x∈fr->X.env.kindOf x=some .cell\/X.env.kindOf x=some .free
 | [],[],_,h=>by cases h
 | a::fr,b::js,h,hm=>by
  rcases Ho.mp hm with rfl | hm
  ·exact h.1.2.1
  ·exact ir.mem h.2 hm
 | [],_::_,h,_=>h.elim
 | _::_,[],h,_=>h.elim
theorem ir.get {X:Cx}{scope:Scope}:∀{fr:List Str} {js:List Nat} {i:Nat} {x:Str} {j:Nat},ir X scope fr js->fr[i]?=some x->js[i]?=some j ->
  X.N[j]?=some x/\(X.env.kindOf x=some .cell\/X.env.kindOf x=some .free)/\scope.names.lookup x=some .free
 | [],[],_,_,_,_,h,_=>by simp at h
 | a::fr,b::js,0,x,j,h,h1,h2=>by
  simp at h1 h2;subst h1;subst h2;exact h.1
 | a::fr,b::js,i+1,x,j,h,h1,h2=>ir.get h.2 (by simpa using h1) (by simpa using h2)
 | [],_::_,_,_,_,h,_,_=>h.elim
 | _::_,[],_,_,_,h,_,_=>h.elim
def oh (n:Nat)(js:List Nat)(Hh : St):St:=JE n none++js.map λ j=>Hh.getD j none
theorem EI {X:Cx}{pins:BT}{Hh : St}{H:Hp}{s:Shared}{scope:Scope}{fp:List Addr}{C:Addr}{N':List Str}(I:Inv X pins Hh H s)(hk:scope.kind=.function)(hcell:∀y∈scope.names,y.2≠.cell)
  (hf:∀y∈scope.names,y.2=.free->∃c,X.env.cells.lookup y.1=some c) (hC:s.heap.objs.size<=C) (hfp:∀b∈fp,iq X pins H b) (hlt:∀b∈fp,b<s.heap.objs.size):(hZ X scope C N' fp s H).Ok:=by
 have ag:∀x c,(kq X.env.cells scope.names []).lookup x=some c->X.env.cells.lookup x=some c:=mH scope.names [] hf λ x c e=>by simp at e
 refine⟨I.ok.mod,hk,I.ok.glob,I.ok.blt,hC,λ x y c h1 h2=>I.ok.inj x y c (ag x c h1) (ag y c h2),λ x hx=>?_,(λ x c h=>(by cases h)),I.ok.hd,I.ok.frames,.inl rfl,λ b hb=>?_,I.bs,?_,λ b o e hb=>?_,λ b hb=>?_,I.stack,I.wI⟩
 ·refine qV scope.names [] (.inl ?_)
  rcases hx with hx | hx
  ·exact jv (.inl rfl) hcell hx
  ·exact jv (.inr rfl) hcell hx
 ·obtain⟨h1,h2,h3,h4,h5,h6⟩:=hfp b hb;exact⟨Hw (HQ (hlt b hb) hC),λ x c e=>h5 x c (ag x c e)⟩
 ·exact Hu I.ok.pJ I.sz
 ·obtain⟨h1,h2,h3,h4,h5,h6⟩:=hfp b hb
  rcases h4 with h4 | h4
  ·exact I.ok.uz b o e h4
  ·exact absurd (HQ (Hq e) (Hu I.ok.pJ h4)) (HG _)
 ·obtain⟨h1,h2,h3,h4,h5,h6⟩:=hfp b hb;intro z
  rcases Ho.mp (I.pK b z) with z | z
  ·exact h2 z
  ·exact h3 z
def wW (J:It)(n:Nat)(js:List Nat)(g:TG)(ct:TT)(te:TE)(acc:Addr)(Hh : St)(H1:Hp)(Q:VK):Prop :=
 ∃W:Nat->Nat->List V->St->Hp->Prop,(∃m,W 0 m [] (oh n js Hh) (upd H1 acc (.lst [])))/\∀i m ys Hi H2,W i m ys Hi H2->H2 acc=some (.lst ys)/\ys.length<sizeLine /\
  ((J.stop i H2/\Q (.ref acc) H2)\/(J.go i H2/\∃N:List V->St->Hp->Prop,(∀ys' τ' H',N ys' τ' H'->∃m',m' < m/\W (i+1) m' ys' τ' H')/\∀x H3,J.sf i H2 x H3->g x Hi H3 λ τ1 H4=>ct τ1 H4 λ b H5 =>
   if b=true then te τ1 H5 λ y H6=>H6 acc=some (.lst ys)/\N (ys++[y]) τ1 (upd H6 acc (.lst (ys++[y]))) else N ys τ1 H5))
def FX (n:Nat)(js:List Nat)(wi:TI)(g:TG)(ct:TT)(te:TE):TE:=λ Hh H Q=>wi Hh H λ J H1=>∀acc,H1 acc=none->wW J n js g ct te acc Hh H1 Q
def zl (X:Cx)(ifs:List Expr)(t:TT):Prop :=
 ∀(pins:BT) (s:Shared) (Hh : St) (H:Hp) (Q:Bool->Hp->Prop),Inv X pins Hh H s->t Hh H Q ->
  wpAny (model X.prog X.w) X.A (forIn ifs true λ c r=>if r=true then do let ok <-isTrue c X.env (eval c X.env);pure (ForInStep.yield ok) else pure (ForInStep.yield r)) (TP X pins Hh Q) X.xe s
def EJ:TT:=λ _ H Q=>Q true H
theorem dG {X:Cx}:zl X [] EJ:=λ _ _ Hh H Q I h=>J8 ⟨H,I,h⟩
theorem qW {X:Cx}{c:Expr}{t:TT}(h:PT X c t):zl X [c] t:=by
 intro pins s Hh H Q I q;rw[IG];simp only[if_true,bind_assoc,pure_bind];refine J7 (bx (h pins s Hh H Q I q) λ b s1 h1=>?_);exact J8 h1
section
variable {X:Cx}{pos:Pos}
theorem ml {prog:Program}{w:World}{A:Around}{R:Result->Shared->Prop}{s:Shared}{elt target iter:Expr}{ifs:List Expr}{scope:Scope}{pos:Pos}{it acc:Value}{env:Env}(I:Nat->Shared->Prop)
  (turn:∀n s,I n s->wpAny (model prog w) A (pyNext it) (λ r s₁=>match r with
   | none=>R (.ok .next) s₁
   | some v=>wpAny (model prog w) A (letOwnedTupleGo target it v) (λ _ s₁'=>wpAny (model prog w) A (assign target env v) (λ _ s₂ =>
     wpAny (model prog w) A (forIn ifs true λ c r=>if r=true then do let ok <-isTrue c env (eval c env);pure (ForInStep.yield ok) else pure (ForInStep.yield r)) (λ ok s₃ =>
      if ok=true then wpAny (model prog w) A (eval elt env) (λ x s₄ =>
       wpAny (model prog w) A (call (.builtin "list.append") [acc,x]) (λ _ s₅=>∃m,m<n/\I m s₅) (λ _ _=>False) s₄) (λ _ _=>False) s₃
      else ∃m,m<n/\I m s₃) (λ _ _=>False) s₂) (λ _ _=>False) s₁') (λ _ _=>False) s₁) (λ _ _=>False) s)
  (n:Nat) (h:I n s) :
  codeAny (model prog w) A (.compLoop (.ListComp elt [⟨target,iter,ifs,0⟩] scope pos) 0 it acc env) R s:=by
 refine codeAny_loop rfl I (λ n s hI=>?_) n h;show wpAny _ A ((compTurn (.ListComp elt [⟨target,iter,ifs,0⟩] scope pos) 0 it acc env).onRaise (λ x=>do noteFrame x env;theTreesLotGoes x)) _ _ s;refine wpAny_noted ?_;rw[compTurn_list];refine J7 (Kr (J7 (J9 (turn n s hI) (λ r s₁ h₁=>?_) λ _ _ h'=>h'.elim)));cases r with
 | none=>exact J8 h₁
 | some v =>
  refine J7 (J9 h₁ (λ _ s₁' h₁'=>?_) λ _ _ h'=>h'.elim);refine J7 (J9 h₁' (λ _ s₂ h₂=>J7 (J9 h₂ (λ ok s₃ h₃=>?_) λ _ _ h'=>h'.elim)) λ _ _ h'=>h'.elim);cases ok with
  | false=>exact J8 ⟨rfl,h₃⟩
  | true =>
   exact J7 (J7 (J9 h₃ (λ x s₄ h₄=>J7 (J9 h₄ (λ _ s₅ h₅=>J8 (J8 ⟨rfl,h₅⟩)) λ _ _ h'=>h'.elim)) λ _ _ h'=>h'.elim))
theorem wX {pins:BT}{Hh : St}{H:Hp}{s:Shared}{E:AT}{tg elt iter:Expr}{ifs:List Expr}{scope:Scope}{g:TG}{ct:TT}{te:TE}{ts fr:List Str}{js:List Nat}
    {it:Addr} {fp:List Addr} {tn:Nat->Heap->Prop} {J:It} {Q:VK} {RR:Value->Addr->Result->Shared->Prop}
    (hc:X.calm=true) (hkind:scope.kind=.function) (hcell:∀y∈scope.names,y.2≠.cell) (hfree:∀y∈scope.names,y.2=.free->X.env.kindOf y.1=some .cell\/X.env.kindOf y.1=some .free)
    (hfr:ir X scope fr js) (htg:∀C fp s₁ H₁,PG (hZ X scope C (ts++fr) fp s₁ H₁) tg g) (hct:∀C fp s₁ H₁,zl (hZ X scope C (ts++fr) fp s₁ H₁) ifs ct) (hte:∀C fp s₁ H₁,PE (hZ X scope C (ts++fr) fp s₁ H₁) elt te)
    (I:Inv X pins Hh H s) (T:Turn X.prog X.w X.K tg J fp it tn) (st:tn 0 s.heap) (hfp:∀b∈fp,iq X pins H b)
    (h:∀acc,H acc=none->wW J ts.length js g ct te acc Hh H Q)
    (hRR:∀acc C H' s' m,Inv X pins Hh H' s'->s'.heap.Ns C m->H' C=none->s.heap.objs.size<=C->Q (.ref acc) H'->RR (.ref acc) C (.ok .next) s') :
    wpAny (model X.prog X.w) X.A (newList []) (λ acc s₃=>wpAny (model X.prog X.w) X.A (newFunctionEnv scope X.env.globals (kq X.env.cells scope.names []) [] X.env.qual none .none (some X.env)) (λ cenv s₄ =>
      codeAny (model X.prog X.w) X.A (.compStart (.ListComp elt [⟨tg,iter,ifs,0⟩] scope pos) 0 (.ref it) acc { cenv with scope:=relabel scope X.env }) (RR acc cenv.locals) s₄) E s₃) E s:=by
  have hf:∀y∈scope.names,y.2=.free->∃c,X.env.cells.lookup y.1=some c:=λ y hy e=>I.ok.has y.1 (hfree y hy e)
  have ag:∀x c,(kq X.env.cells scope.names []).lookup x=some c->X.env.cells.lookup x=some c:=mH scope.names [] hf λ x c e=>by simp at e
  have hlt:∀b∈fp,b<s.heap.objs.size:=λ b hb=>by
    obtain⟨o,e,_⟩:=T.obj _ _ st b hb;exact Hq e
  refine Ke (wpAny_newFunctionEnv hcell (by intro y hy;simp at hy) (λ h₁ hns₁ hsb₁=>?_) hkind);dsimp only at hns₁ hsb₁ ⊢;generalize hH2:s.heap.push { cls:=.type "list",dict:=none,data:=.seq ([]:List Value).toArray }=G2 at hns₁ hsb₁ ⊢;have hC:G2.objs.size=s.heap.objs.size+1:=by rw[<-hH2,HJ]
  have hDC:s.heap.objs.size≠G2.objs.size:=by rw[hC];exact Hw (Iy _)
  have hCle:s.heap.objs.size<=G2.objs.size:=by rw[hC];exact Ip _
  have below:∀b,b<s.heap.objs.size->b≠G2.objs.size/\b≠s.heap.objs.size:=λ b hb=>⟨by rw[hC];exact Hw (Il hb),Hw hb⟩
  have old:∀b o,s.heap.get? b=some o->h₁.get? b=some o:=λ b o e=>hsb₁.extBut b o (below b (Hq e)).1 (Hr _ (hH2 ▸ Hr _ e))
  have hacc:h₁.get? s.heap.objs.size=some { cls:=.type "list",data:=.seq ([]:List Value).toArray }:=hsb₁.extBut _ _ hDC (Hr _ (hH2 ▸ Hs _ rfl));have nD:H s.heap.objs.size=none:=I.bc.fresh (Hn _);have nC:H G2.objs.size=none:=I.bc.fresh hCle;obtain⟨W,⟨m0,w0⟩,turn⟩:=h s.heap.objs.size nD;generalize hXb:hZ X scope G2.objs.size (ts++fr) fp s H=Xb;have Ib:∀tk,Inv Xb [] (oh ts.length js Hh) (upd H s.heap.objs.size (.lst [])) { s with heap:=h₁,toks:=tk }:=by
    intro tk;subst hXb;exists EI I hkind hcell hf hCle hfp hlt,rfl,I.bare,Un.laid old (Hn _) nD,⟨_,hns₁,λ i x v e1 e2 e3=>?_⟩,λ x c e=>?_,?_,λ x c e=>?_,λ p hp=>absurd (show p∈([]:BT) from hp) (by simp),I.bc.laid old (Hn _) ⟨by show 0<=sizeLine;decide,[],_,.nil,hacc⟩
    . have hi:ts.length<=i:=by
        refine Nat.le_of_not_lt λ hi=>?_
        unfold oh at e2;rw[IL (by simpa using hi),List.getElem?_replicate] at e2;split at e2<;>cases e2
      have e1':fr[i-ts.length]?=some x:=by
        have e1'':(ts++fr)[i]?=some x:=e1;rw[Jk hi] at e1'';exact e1''
      unfold oh at e2;rw[Jk (by simpa using hi),JF,HC] at e2;cases ej:js[i-ts.length]? with
      | none=>rw[ej] at e2;cases e2
      | some j =>
        rw[ej] at e2;have e2':Hh.getD j none=some v:=by simpa using e2
        obtain⟨q1,q2,q3⟩:=hfr.get e1' ej;have e2'':Hh[j]?=some (some v):=by
          rw[List.getD_eq_getElem?_getD] at e2';cases ez:Hh[j]? with
          | none=>rw[ez] at e2';cases e2'
          | some z=>rw[ez] at e2';rw[show z=some v from e2']
        obtain⟨m,hn,hl⟩:=I.loc;obtain⟨u,r,l⟩:=hl j x v q1 e2'' (by
          rcases q2 with q2 | q2
          . exact .inr (.inl q2)
          . exact .inr (.inr q2))
        refine⟨u,r,.inr ⟨mI q3,?_⟩⟩
        rcases l with ⟨l,_⟩ | ⟨_,c,lc,lv⟩
        . rcases q2 with q2 | q2<;>(rw[l] at q2;cases q2)
        . obtain⟨c',hc'⟩:=qV (cells:=X.env.cells) scope.names [] (.inl (PySem.mem_of_lookup q3))
          have:=ag x c' hc';rw[lc] at this;cases this;obtain⟨o,ho,hd⟩:=lv;exact⟨c,hc',o,old _ _ ho,hd⟩
    . obtain⟨v,o,ho,hd⟩:=I.cell x c (ag x c e)
      exact⟨v,o,old _ _ ho,hd⟩
    . show upd H s.heap.objs.size (.lst []) G2.objs.size=none
      rw[av hDC.symm];exact nC
    . obtain⟨v,o,ho,hd⟩:=I.cell x c (ag x c e)
      rw[av (Hw (Hq ho))];exact I.fD x c (ag x c e)
    . show (oh ts.length js Hh).length=(ts++fr).length
      unfold oh;rw[Ht,JF,Hk,Ht,hfr.len]
  have fpB:∀{H':Hp},(∀b∈fp,H' b=none)->∀b∈fp,iq Xb [] H' b:=λ {H'} hn b hb=>by
    subst hXb;obtain⟨h1,h2,h3,h4,h5,h6⟩:=hfp b hb;refine⟨hn b hb,(below b (hlt b hb)).1,λ z=>?_,.inl hb,λ x c e=>h5 x c (ag x c e),λ p hp=>absurd (show p∈([]:BT) from hp) (by simp)⟩
    rcases Ho.mp (I.pK b z) with z | z
    . exact h2 z
    . exact h3 z
  have fin:∀{Hi : St} {H':Hp} {s':Shared},Inv Xb [] Hi H' s'->Q (.ref s.heap.objs.size) H'->RR (.ref s.heap.objs.size) G2.objs.size (.ok .next) s':=λ {Hi H' s'} Jb q=>by
    subst hXb;obtain⟨m,hn,_⟩:=Jb.loc;refine hRR _ _ H' s' m (I.Fm (ch:=fp) Jb.os Jb.base Jb.bc Jb.bare λ b hb=>?_) hn Jb.free hCle q;obtain⟨h1,h2,h3,h4,h5,h6⟩:=hfp b hb;exact⟨h4,h2,h5,h6⟩
  have loop:∀tk,codeAny (model X.prog X.w) X.A (.compLoop (.ListComp elt [⟨tg,iter,ifs,0⟩] scope pos) 0 (.ref it) (.ref s.heap.objs.size) (compEnvC scope (kq X.env.cells scope.names []) G2.objs.size X.env))
        (RR (.ref s.heap.objs.size) G2.objs.size) { s with heap:=h₁,toks:=tk }:=by
    intro tk;refine ml (λ n s'=>∃i ys Hi H',Inv Xb [] Hi H' s'/\tn i s'.heap/\(∀b∈fp,H' b=none)/\W i n ys Hi H') ?_ m0 ⟨0,[],_,_,Ib tk,T.keep _ _ _ st λ b hb o e=>old b o e,λ b hb=>?_,w0⟩
    . rintro n s3 ⟨i,ys,Hi,H3,I3,st3,fr3,w3⟩
      have htg':=htg G2.objs.size fp s H;have hct':=hct G2.objs.size fp s H;have hte':=hte G2.objs.size fp s H;rw[hXb] at htg' hct' hte';have eP:Xb.prog=X.prog:=by subst hXb;rfl
      have ew:Xb.w=X.w:=by subst hXb;rfl
      have eK:Xb.K=X.K:=by subst hXb;rfl
      have eA:Xb.A=X.A:=by subst hXb;rfl
      have ec:Xb.calm=true:=by subst hXb;exact hc
      have ee:Xb.env=compEnvC scope (kq X.env.cells scope.names []) G2.objs.size X.env:=by subst hXb;rfl
      have ex:Xb.xe=λ _ _=>False:=by subst hXb;rfl
      rw[<-eP,<-ew,<-eA,<-ee];obtain⟨ha,hl,turn'⟩:=turn i n ys Hi H3 w3
      rcases turn' with ⟨stop,q⟩ | ⟨go,N,hN,step⟩
      . have hd:=T.done Xb eP ew eK ec i [] s3 Hi H3 (λ _ _=>False) I3 (fpB fr3) st3 stop
        rw[<-eP,<-ew] at hd;refine J9 hd (λ r s4 hr4=>?_) λ _ _ z=>z
        obtain⟨hr,I4⟩:=hr4;subst hr;exact fin I4 q
      . have hd:=T.item Xb eP ew eK ec i [] s3 Hi H3 (λ _ _=>False) I3 (fpB fr3) st3 go
        rw[<-eP,<-ew] at hd;refine J9 hd (λ r s4 hr4=>?_) λ _ _ z=>z
        obtain⟨u,hr,h4⟩:=hr4;subst hr;refine J9 h4 (λ _ s5 ⟨x,H5,I5,r5,y5,st5,fr5⟩=>?_) λ _ _ z=>z
        have I5':=I5.pinned (fpB fr5) (T.obj _ _ st5);have keepT:∀{σ7:St} {H7:Hp} {s7:Shared},Inv Xb ([]++my fp s5.heap) σ7 H7 s7->tn (i+1) s7.heap/\∀b∈fp,H7 b=none:=λ {σ7 H7 s7} I7=>by
          refine⟨T.keep _ _ _ st5 λ b hb o e=>(I7.pin (b,o) (HS _ (HS _ (i9 hb e)))).1,λ b hb=>?_⟩;obtain⟨o,e,d⟩:=T.obj _ _ st5 b hb;exact (I7.pin (b,o) (HS _ (HS _ (i9 hb e)))).2.1
        refine J9 (htg' _ s5 Hi H5 x u _ I5' r5 (step x H5 y5)) (λ _ s6 ⟨τ6,H6,I6,q6⟩=>?_) (λ _ _ z=>by rw[ex] at z;exact z);refine J9 (hct' _ s6 τ6 H6 _ I6 q6) (λ ok s7 ⟨H7,I7,q7⟩=>?_) (λ _ _ z=>by rw[ex] at z;exact z);cases ok with
        | false =>
          have q7':N ys τ6 H7:=by rw[if_neg (by simp)] at q7;exact q7
          rw[if_neg (by simp)];obtain⟨m',hm,w7⟩:=hN _ _ _ q7';exact⟨m',hm,i+1,ys,τ6,H7,I7.jj,(keepT I7).1,(keepT I7).2,w7⟩
        | true =>
          rw[if_pos rfl] at q7 ⊢;refine J9 (hte' _ s7 τ6 H7 _ I7 q7) (λ v s8 ⟨y,H8,I8,r8,ha8,n8⟩=>?_) (λ _ _ z=>by rw[ex] at z;exact z);refine J9 (fW (X:=Xb) _ s8 τ6 H8 (.ref s.heap.objs.size) [y] (.ref s.heap.objs.size) [v] (λ _ H9=>H9=upd H8 s.heap.objs.size (.lst (ys++[y]))) I8 rfl (.cons r8 .nil) ⟨_,ys,y,rfl,rfl,ha8,hl,rfl⟩) (λ _ s9 ⟨_,H9,I9,_,e9⟩=>?_) (λ _ _ z=>by rw[ex] at z;exact z);subst e9;obtain⟨m',hm,w8⟩:=hN _ _ _ n8;exact⟨m',hm,i+1,_,τ6,_,I9.jj,(keepT I9).1,(keepT I9).2,w8⟩
    . rw[av (Hw (hlt b hb))]
      exact (hfp b hb).1
  exact codeAny_compStart_list (loop _) (T.self _ 0 _ _ _ (T.keep _ _ _ st λ b hb o e=>old b o e) (loop _))
theorem Inv.zm {pins:BT}{Hh : St}{H H':Hp}{s s':Shared}{C:Addr}{h':Heap}(I:Inv X pins Hh H s){σ':St}(I':Inv X pins σ' H' s')(hC:H' C=none)(hle:s.heap.objs.size<=C)(hsb:HR C s'.heap h') :
  Inv X pins σ' H' { s' with heap:=h' }:=by
 obtain⟨h1,h2,h3,h4,h5,h6⟩:=I.kT (H':=H') hle hC;exact I'.turned (t':=s'.toks) (λ b o hb e=>hsb.extBut b o hb e) hC h2 h4 h5 h6
theorem dA {tg elt iter:Expr}{ifs:List Expr}{scope:Scope}{wi:TI}{g:TG}{ct:TT}{te:TE}(ts fr:List Str)(js:List Nat)
  (hc:X.calm=true) (hi:PI X tg iter wi) (hkind:scope.kind=.function) (hcell:∀y∈scope.names,y.2≠.cell) (hnames:∀y∈scope.names,y.2=.local->scope.names.lookup y.1=some .local)
  (hfree0:∀y∈scope.names,y.2=.free->y.1∈fr) (hfr:ir X scope fr js)
  (htg:∀C fp s₁ H₁,PG (hZ X scope C (ts++fr) fp s₁ H₁) tg g) (hct:∀C fp s₁ H₁,zl (hZ X scope C (ts++fr) fp s₁ H₁) ifs ct) (hte:∀C fp s₁ H₁,PE (hZ X scope C (ts++fr) fp s₁ H₁) elt te)
  (hs:∀x,foldedSetIterable iter X.env x=pure x:=by intro _;rfl):PE X (.ListComp elt [⟨tg,iter,ifs,0⟩] scope pos) (FX ts.length js wi g ct te):=by
 have hfree:∀y∈scope.names,y.2=.free->X.env.kindOf y.1=some .cell\/X.env.kindOf y.1=some .free:=λ y hy e=>hfr.mem (hfree0 y hy e)
 intro pins s Hh H Q I h;rw[eval_ListComp];refine KN (use:=none) rfl hs (pO λ y hy e=>I.ok.has y.1 (hfree y hy e)) hkind hnames (bx (hi pins s Hh H _ I h) λ xv s1 h1=>bx h1 λ itv s2 h2=>?_);obtain⟨it,fp,tn,J,H2,e,I2,T,st2,f2,hW⟩:=h2;subst e;refine wX (RR:=λ acc C=>compPost (model X.prog X.w) X.A X.xe none (EP X pins Hh Q) acc C) hc hkind hcell hfree hfr htg hct hte I2 T st2 f2 hW ?_;intro acc C H' s' m I' hn hC hle q;exact⟨m,hn,λ h' hsb=>⟨.ref acc,H',I2.zm I' hC hle hsb,rfl,q⟩⟩
theorem jw {tg elt iter:Expr}{ifs:List Expr}{scope:Scope}{wi:TI}{g:TG}{ct:TT}{te:TE}{i:Nat}{y:Str}{py spos:Pos}(ts fr:List Str)(js:List Nat)
  (hsw:swapsWith (.ListComp elt [⟨tg,iter,ifs,0⟩] scope pos) (some (.Name y py)) spos.line X.env=pure true) (hN:X.N.Nodup) (hi0:X.N[i]?=some y) (hx:X.env.scope.names.lookup y=some .local)
  (hc:X.calm=true) (hi:PI X tg iter wi) (hkind:scope.kind=.function) (hcell:∀y∈scope.names,y.2≠.cell) (hnames:∀y∈scope.names,y.2=.local->scope.names.lookup y.1=some .local)
  (hfree0:∀y∈scope.names,y.2=.free->y.1∈fr) (hfr:ir X scope fr js)
  (htg:∀C fp s₁ H₁,PG (hZ X scope C (ts++fr) fp s₁ H₁) tg g) (hct:∀C fp s₁ H₁,zl (hZ X scope C (ts++fr) fp s₁ H₁) ifs ct) (hte:∀C fp s₁ H₁,PE (hZ X scope C (ts++fr) fp s₁ H₁) elt te)
  (hs:∀x,foldedSetIterable iter X.env x=pure x:=by intro _;rfl):PS X (.Assign [.Name y py] (.ListComp elt [⟨tg,iter,ifs,0⟩] scope pos) spos) (xK (FX ts.length js wi g ct te) (um i)):=by
 have hfree:∀y∈scope.names,y.2=.free->X.env.kindOf y.1=some .cell\/X.env.kindOf y.1=some .free:=λ y hy e=>hfr.mem (hfree0 y hy e)
 intro pins s Hh H D I h;rw[exec_Assign_Name_used _ _ _ _ hsw];refine J7 (Kr (J7 ?_));show wpAny _ X.A (do let _ <-comprehension (.ListComp elt [⟨tg,iter,ifs,0⟩] scope pos) scope X.env _ (newList []) false (eval iter X.env) (some (assign (.Name y py) X.env))) _ _ s;refine J7 (J9 (KN (use:=some (assign (.Name y py) X.env)) (Q:=λ _ s'=>SP X pins D .next s') rfl hs (pO λ y hy e=>I.ok.has y.1 (hfree y hy e)) hkind hnames
  (bx (hi pins s Hh H _ I h) λ xv s1 h1=>bx h1 λ itv s2 h2=>?_)) (λ _ s' hq=>J8 (J8 hq)) λ _ _ e=>e)
 obtain⟨it,fp,tn,J,H2,e,I2,T,st2,f2,hW⟩:=h2;subst e;refine wX (Q:=λ v H'=>D.nx (Hh.set i (some v)) H') (RR:=λ acc C=>compPost (model X.prog X.w) X.A X.xe (some (assign (.Name y py) X.env)) (λ _ s'=>SP X pins D .next s') acc C) hc hkind hcell hfree hfr htg hct hte I2 T st2 f2 hW ?_;intro acc C H' s' m I' hn hC hle q;show wpAny _ X.A (assign (.Name y py) X.env (.ref acc)) _ _ _;refine wpAny_assign_Name (se I' hN hi0 (.inl hx) (v:=.ref acc) rfl (λ s'' I'' hch=>?_) (.inr hx));obtain⟨h1,h2,h3,h4,h5,h6⟩:=I2.kT (H':=H') hle hC;obtain⟨a,hsb,ha⟩:=hch;refine⟨m,hn.sameBut hsb ?_,λ h' hsb'=>⟨_,H',I2.zm I'' hC hle hsb',q⟩⟩
 rcases ha with ha | ha
 ·rw[ha];exact h2
 ·exact λ z=>h5 y a ha z.symm
end
theorem ky {K:Hl}{a acc:Addr}{xs:List V}{n:Nat}{js:List Nat}{g:TG}{ct:TT}{te:TE}{Hh : St}{H1:Hp}{Q:VK}(Pv:Nat->List V->St->Hp->Prop)(h0:Pv 0 [] (oh n js Hh) (upd H1 acc (.lst [])))
  (hl:∀i ys Hi H,i<=xs.length->Pv i ys Hi H->aT K H a xs/\H acc=some (.lst ys)/\ys.length<sizeLine)
  (hs:∀i x ys Hi H,xs[i]?=some x->Pv i ys Hi H->g x Hi H λ τ1 H4=>ct τ1 H4 λ b H5=>if b=true then te τ1 H5 λ y H6=>H6 acc=some (.lst ys)/\Pv (i+1) (ys++[y]) τ1 (upd H6 acc (.lst (ys++[y]))) else Pv (i+1) ys τ1 H5)
  (hd:∀ys Hi H,Pv xs.length ys Hi H->Q (.ref acc) H) :
  wW (wL K a) n js g ct te acc Hh H1 Q:=by
 exists λ i m ys Hi H=>m=xs.length-i/\i<=xs.length/\Pv i ys Hi H,⟨xs.length,by simp,HL _,h0⟩;rintro i m ys Hi H ⟨rfl,hi,p⟩;obtain⟨q,q2,q3⟩:=hl i ys Hi H hi p;exists q2,q3;by_cases hlt:i<xs.length
 ·refine .inr ⟨⟨xs,xs[i],q,by simp[hlt]⟩,Pv (i+1),λ ys' τ' H' p'=>⟨xs.length-(i+1),by omega,rfl,hlt,p'⟩,λ x H' y=>?_⟩;obtain⟨e,y⟩:=y;subst e;exact hs i x ys Hi _ (y xs q) p
 ·have e:i=xs.length:=by omega
  subst e;exact .inl ⟨⟨xs,q,Hn _⟩,hd ys Hi H p⟩
theorem jx {K:Hl}{a acc:Addr}{xs:List V}{n:Nat}{js:List Nat}{g:TG}{ct:TT}{te:TE}{Hh : St}{H1:Hp}{Q:VK}(Pv:Nat->List V->St->Hp->Prop)(h0:Pv 0 [] (oh n js Hh) (upd H1 acc (.lst [])))
  (hl:∀i ys Hi H,i<=xs.length->Pv i ys Hi H->au K H a xs/\H acc=some (.lst ys)/\ys.length<sizeLine)
  (hs:∀i x ys Hi H,xs[i]?=some x->Pv i ys Hi H->g x Hi H λ τ1 H4=>ct τ1 H4 λ b H5=>if b=true then te τ1 H5 λ y H6=>H6 acc=some (.lst ys)/\Pv (i+1) (ys++[y]) τ1 (upd H6 acc (.lst (ys++[y]))) else Pv (i+1) ys τ1 H5)
  (hd:∀ys Hi H,Pv xs.length ys Hi H->Q (.ref acc) H) :
  wW (wM K a) n js g ct te acc Hh H1 Q:=by
 exists λ i m ys Hi H=>m=xs.length-i/\i<=xs.length/\Pv i ys Hi H,⟨xs.length,by simp,HL _,h0⟩;rintro i m ys Hi H ⟨rfl,hi,p⟩;obtain⟨q,q2,q3⟩:=hl i ys Hi H hi p;exists q2,q3;by_cases hlt:i<xs.length
 ·refine .inr ⟨⟨xs,xs[i],q,by simp[hlt]⟩,Pv (i+1),λ ys' τ' H' p'=>⟨xs.length-(i+1),by omega,rfl,hlt,p'⟩,λ x H' y=>?_⟩;obtain⟨e,y⟩:=y;subst e;exact hs i x ys Hi _ (y xs q) p
 ·have e:i=xs.length:=by omega
  subst e;exact .inl ⟨⟨xs,q,Hn _⟩,hd ys Hi H p⟩
theorem kW {lo:Int}{k:Nat}{acc:Addr}{n:Nat}{js:List Nat}{g:TG}{ct:TT}{te:TE}{Hh : St}{H1:Hp}{Q:VK}(Pv:Nat->List V->St->Hp->Prop)(h0:Pv 0 [] (oh n js Hh) (upd H1 acc (.lst [])))
  (hl:∀i ys Hi H,i<=k->Pv i ys Hi H->H acc=some (.lst ys)/\ys.length<sizeLine)
  (hs:∀i ys Hi H,i<k->Pv i ys Hi H->g (.int (lo+i)) Hi H λ τ1 H4=>ct τ1 H4 λ b H5=>if b=true then te τ1 H5 λ y H6=>H6 acc=some (.lst ys)/\Pv (i+1) (ys++[y]) τ1 (upd H6 acc (.lst (ys++[y]))) else Pv (i+1) ys τ1 H5)
  (hd:∀ys Hi H,Pv k ys Hi H->Q (.ref acc) H) :
  wW (uH lo k) n js g ct te acc Hh H1 Q:=by
 exists λ i m ys Hi H=>m=k-i/\i<=k/\Pv i ys Hi H,⟨k,by simp,HL _,h0⟩;rintro i m ys Hi H ⟨rfl,hi,p⟩;obtain⟨q2,q3⟩:=hl i ys Hi H hi p;exists q2,q3;by_cases hlt:i<k
 ·refine .inr ⟨hlt,Pv (i+1),λ ys' τ' H' p'=>⟨k-(i+1),by omega,rfl,hlt,p'⟩,λ x H' y=>?_⟩;obtain⟨e,y⟩:=y;subst e y;exact hs i ys Hi _ hlt p
 ·have e:i=k:=by omega
  subst e;exact .inl ⟨Hn _,hd ys Hi H p⟩
section
variable {X:Cx}
theorem sH:eJ X (compareOp .IsNot) (λ x y H Q=>∃c d,x=.bl c/\y=.bl d/\Q (.bl (!(c == d))) H):=by
 intro pins s Hh H x y v u Q I rx ry h;obtain⟨c,d,rfl,rfl,q⟩:=h;cases (show v=Value.bool c from rx);cases (show u=Value.bool d from ry);refine wpAny_isNot_plain rfl ⟨.bl (!(c == d)),H,I,?_,q⟩;cases c<;>cases d<;>rfl
end
def GO (t:TS):TS:=λ D Hh H=>∃M:St->Hp->Prop,t { D with nx:=M } Hh H/\∀σ' H',M σ' H'->D.nx σ' H'
theorem cY {X:Cx}{st:Stmt}{t:TS}(h:PS X st t):PS X st (GO t):=by
 intro pins s Hh H D I q;obtain⟨M,q,hM⟩:=q;refine bx (h pins s Hh H _ I q) λ f s' hs=>?_
 cases f with
 | next =>
  obtain⟨σ',H',I',m⟩:=hs;exact⟨σ',H',I',hM _ _ m⟩
 | brk=>exact hs
 | cont=>exact hs
 | ret u=>exact hs
theorem dB {m:Int}(h0:0<m)(h1:m<1073741824):m.natAbs.log2<9000:=by
 have h:m.natAbs.log2<30:=(Nat.log2_lt ⋯).mpr ⋯;omega
theorem kA {X:Cx}{K:Hl}{es:List Expr}{k:Nat}{t:uF}{n:Nat}{pos:Pos}(hK:X.K=K)(h:PG X (.Tuple es k pos) (AB X.K n t)):PG X (.Tuple es k pos) (AB K n t):=by
 subst hK;exact h
section
variable {prog:Program}{w:World}{A:Around}{E:AT}{s:Shared}
theorem kB {j t:Addr}{n:Nat}{its:Array Value}{x:Value}{Q:AT}(hj:s.heap.IsTupleIter j t n)(ht:s.heap.IsTuple t its)(hx:its[n]?=some x)
  (hQ:∀g,g.IsTupleIter j t (n+1)->HR j s.heap g->Q x { s with heap:=g }):wpAny (model prog w) A (Builtin.SmallTypes.nextOf (.ref j)) Q E s:=by
 obtain⟨ob,eo,ec,ed⟩:=id hj;obtain⟨ot,et,_,k,ek⟩:=ht;unfold Builtin.SmallTypes.nextOf;refine J7 (wpAny_callSpecial?_slot (name:=Str.ofString "__next__") hj.typeIs F.slot_tuple_iterator_next (Kc F.slot_tuple_iterator_next hj.typeIs F.entry_tuple_iterator_next ?_ (F.args_tuple_iterator_next_1 _)));show wpAny _ _ (field (.ref j) 0 >>= _) _ _ s;refine J7 (Ka eo ed (x:=.ref t) rfl ?_);show wpAny _ _ (if (Value.ref t == Value.none)=true then _ else _) _ _ s;refine (if_neg (c:=(Value.ref t == Value.none)=true) HK) ▸ ?_;show wpAny _ _ (field (.ref j) 1 >>= _) _ _ s;refine J7 (Ka eo ed (x:=.int n 0) rfl (J7 (Kd et ek ?_)));simp only[hx,IM];refine J7 (Kl eo ed (by simp) (J8 ⟨x,rfl,J8 (hQ _ ⟨_,IA _ eo (Obj.isFreed_of_fields (Obj.data_mapFields ed _)),(Obj.cls_mapFields ..).trans ec,?_⟩ (HR.update ..))⟩));rw[Obj.data_mapFields ed];simp[rawInt]
theorem qX {j t:Addr}{n:Nat}{its:Array Value}{Q:AT}(ha:A.handled=none)(hj:s.heap.IsTupleIter j t n)(ht:s.heap.IsTuple t its)(hx:its[n]?=none)
    (hE:∀g e,Heap.ExtBut j s.heap g->(∃o,g.get? e=some o/\o.cls=.type "StopIteration")->E (.ref e) { s with heap:=g }):wpAny (model prog w) A (Builtin.SmallTypes.nextOf (.ref j)) Q E s:=by
  obtain⟨ob,eo,ec,ed⟩:=id hj;obtain⟨ot,et,_,k,ek⟩:=ht;unfold Builtin.SmallTypes.nextOf;refine J7 (wpAny_callSpecial?_slot (name:=Str.ofString "__next__") hj.typeIs F.slot_tuple_iterator_next (Kc F.slot_tuple_iterator_next hj.typeIs F.entry_tuple_iterator_next ?_ (F.args_tuple_iterator_next_1 _)));show wpAny _ _ (field (.ref j) 0 >>= _) _ _ s;refine J7 (Ka eo ed (x:=.ref t) rfl ?_);show wpAny _ _ (if (Value.ref t == Value.none)=true then _ else _) _ _ s;refine (if_neg (c:=(Value.ref t == Value.none)=true) HK) ▸ ?_;show wpAny _ _ (field (.ref j) 1 >>= _) _ _ s;refine J7 (Ka eo ed (x:=.int n 0) rfl (J7 (Kd et ek ?_)));simp only[hx,IM];refine J7 (Kf (J7 (Kl eo ed (by simp) ?_)));show wpAny _ _ (newExc (.type "StopIteration") [] >>= λ _=>_) _ _ _;refine J7 ?_;simp only[newTuple,newExc];refine J7 (Ke (J7 (m:=firstArgMember _ _) (wpAny_of_eq (a:=Value.none) (by first | rfl | (simp only[firstArgMember];rfl)) (Ke ?_ (by size_fits)))) (by size_fits));simp only[raiseNew];refine J7 (wpAny_handled (by
    first | rw[show A.in1.handled=none from ha] | rw[ha]
    exact J7 (J8 (wpAny_throw (hE _ _ (((HR.update ..).extBut.push _).push _) ⟨_,Hs _ rfl,rfl⟩)))))
structure wY (z p q j k a b:Addr):Prop where
 pz:p≠z
 qz:q≠z
 jz:j≠z
 kz:k≠z
 pq:p≠q
 pj:p≠j
 pk:p≠k
 qj:q≠j
 qk:q≠k
 jk:j≠k
 az:a≠z
 aq:a≠q
 aj:a≠j
 ak:a≠k
 bz:b≠z
 bq:b≠q
 bj:b≠j
 bk:b≠k
theorem fc {h g:Heap}{a:Addr}{xs:Array Value}(x:h.IsTuple a xs)(k:∀o,h.get? a=some o->g.get? a=some o):g.IsTuple a xs:=by
 obtain⟨o,e,r⟩:=x;exact⟨o,k o e,r⟩
theorem Dm {z p q j k a b:Addr}{m n:Nat}{xs ys:Array Value}{x y u v:Value}{Q:AT}(D:wY z p q j k a b)
  (gz:IsZip s.heap z p q .none) (gp:IsPair s.heap p (.ref j) (.ref k)) (gq:IsPair s.heap q u v)
  (gj:s.heap.IsTupleIter j a m) (gk:s.heap.IsTupleIter k b n) (ga:s.heap.IsTuple a xs) (gb:s.heap.IsTuple b ys) (hx:xs[m]?=some x) (hy:ys[n]?=some y)
  (hQ:∀g,IsZip g z p q (rawInt s.heap.objs.size)->IsPair g q x y->g.IsTupleIter j a (m+1)->g.IsTupleIter k b (n+1)->IsPair g s.heap.objs.size x y->g.objs.size=s.heap.objs.size+1 ->
   (∀c o,c≠z->c≠q->c≠j->c≠k->s.heap.get? c=some o->g.get? c=some o)->Q (.ref s.heap.objs.size) { s with heap:=g }) :
  wpAny (model prog w) A (Builtin.«zip.__next__» ⟨[.ref z],[]⟩) (λ fin s'=>∃v,fin=.done (.ret v)/\Q v s') E s:=by
 show wpAny _ _ (field (.ref z) 2 >>= λ _=>_) _ _ _;refine J7 (Ka gz rfl (x:=.bool false) rfl ?_);show wpAny _ _ (field (.ref z) 3 >>= λ _=>_) _ _ _;refine J7 (Ka gz rfl (x:=.ref p) rfl (J7 (Kd gp rfl ?_)));show wpAny _ _ (Builtin.SmallTypes.ownedTupleIsFree (.ref z) >>= λ _=>_) _ _ _;refine J7 ?_;unfold Builtin.SmallTypes.ownedTupleIsFree;refine J7 (Ka gz rfl (x:=.none) rfl (J8 ?_));simp only[if_true];refine J7 (Kf (J7 (Ka gz rfl (x:=.ref q) rfl (J7 (Kg gz (by simp) λ g1 gz1 t1=>?_)))))
 replace gz1:IsZip g1 z p q .ellipsis:=gz1
 refine J7 ?_;simp only[IG,IZ,JG,JH];refine J7 (J7 (Km ?_));show wpAny _ _ (Builtin.SmallTypes.nextOf (.ref j) >>= λ _=>_) _ _ _;refine J7 (kB (gj.extBut t1.extBut D.jz) (fc ga λ o e=>t1.extBut _ _ D.az e) hx λ g2 gj2 t2=>J8 ?_);have gq2:IsPair g2 q u v:=t2.extBut _ _ D.qj (t1.extBut _ _ D.qz gq);refine J7 (Kd gq2 rfl (J7 (KI gq2 λ g3 gq3 t3=>?_)))
 replace gq3:IsPair g3 q x v:=gq3
 refine J7 (Kq (J8 (J7 (J7 (Km ?_)))));show wpAny _ _ (Builtin.SmallTypes.nextOf (.ref k) >>= λ _=>_) _ _ _;refine J7 (kB (((gk.extBut t1.extBut D.kz).extBut t2.extBut D.jk.symm).extBut t3.extBut D.qk.symm) (fc gb λ o e=>t3.extBut _ _ D.bq (t2.extBut _ _ D.bj (t1.extBut _ _ D.bz e))) hy λ g4 gk4 t4=>J8 ?_);have gq4:IsPair g4 q x v:=t4.extBut _ _ D.qk gq3;refine J7 (Kd gq4 rfl (J7 (KI gq4 λ g5 gq5 t5=>?_)))
 replace gq5:IsPair g5 q x y:=gq5
 refine J7 (Kq (J8 (J8 (J7 (Kd gq5 rfl (J7 (wpAny_newTuple ?_)))))));have ez:g5.objs.size=s.heap.objs.size:=by rw[t5.1,t4.1,t3.1,t2.1,t1.1]
 have gz5:IsZip g5 z p q .ellipsis:=t5.extBut _ _ D.qz.symm (t4.extBut _ _ D.kz.symm (t3.extBut _ _ D.qz.symm (t2.extBut _ _ D.jz.symm gz1)));have k5:∀c o,c≠z->c≠q->c≠j->c≠k->s.heap.get? c=some o->g5.get? c=some o:=λ c o c1 c2 c3 c4 e=>t5.extBut _ _ c2 (t4.extBut _ _ c4 (t3.extBut _ _ c2 (t2.extBut _ _ c3 (t1.extBut _ _ c1 e))))
 have gj5:g5.IsTupleIter j a (m+1):=((gj2.extBut t3.extBut D.qj.symm).extBut t4.extBut D.jk).extBut t5.extBut D.qj.symm;have gk5:g5.IsTupleIter k b (n+1):=gk4.extBut t5.extBut D.qk.symm;have lz:z<g5.objs.size:=Hq gz5;show wpAny _ _ (Builtin.SmallTypes.ownedTupleHandOut (.ref z) (.ref g5.objs.size) >>= λ _=>_) _ _ _;refine J7 ?_;unfold Builtin.SmallTypes.ownedTupleHandOut;have gz6:IsZip (g5.push { cls:=.type "tuple",data:=.seq #[x,y] }) z p q .ellipsis:=Hr _ gz5;refine J7 (Kg gz6 (by simp) λ g7 gz7 t7=>?_)
 replace gz7:IsZip g7 z p q (rawInt g5.objs.size):=gz7
 refine Kg gz7 (by simp) λ g8 gz8 t8=>?_
 replace gz8:IsZip g8 z p q (rawInt g5.objs.size):=gz8
 have up:∀c o,c≠z->g5.get? c=some o->g8.get? c=some o:=λ c o c1 e=>t8.extBut _ _ c1 (t7.extBut _ _ c1 (Hr _ e))
 have gT:IsPair g8 g5.objs.size x y:=t8.extBut _ _ (Iv lz) (t7.extBut _ _ (Iv lz) (Hs _ rfl));have e8:g8.objs.size=g5.objs.size+1:=by rw[t8.1,t7.1,HJ]
 rw[ez] at gz8 gT e8;refine J8 ⟨_,rfl,?_⟩;show Q (.ref g5.objs.size) _;rw[ez];refine hQ g8 gz8 (up _ _ D.qz gq5) ?_ ?_ gT e8 λ c o c1 c2 c3 c4 e=>up c o c1 (k5 c o c1 c2 c3 c4 e)
 ·obtain⟨o,e,r⟩:=gj5;exact⟨o,up _ _ D.jz e,r⟩
 ·obtain⟨o,e,r⟩:=gk5;exact⟨o,up _ _ D.kz e,r⟩
theorem EK {z p q j k a b:Addr}{m n:Nat}{xs ys:Array Value}{u v:Value}{Q:Fin->Shared->Prop}(ha:A.handled=none)(D:wY z p q j k a b)
  (gz:IsZip s.heap z p q .none) (gp:IsPair s.heap p (.ref j) (.ref k)) (gq:IsPair s.heap q u v)
  (gj:s.heap.IsTupleIter j a m) (gk:s.heap.IsTupleIter k b n) (ga:s.heap.IsTuple a xs) (gb:s.heap.IsTuple b ys) (hend:xs[m]?=none\/ys[n]?=none)
  (hE:∀g e,(∀c o,c≠z->c≠q->c≠j->c≠k->s.heap.get? c=some o->g.get? c=some o)->(∃o,g.get? e=some o/\o.cls=.type "StopIteration")->E (.ref e) { s with heap:=g }) :
  wpAny (model prog w) A (Builtin.«zip.__next__» ⟨[.ref z],[]⟩) Q E s:=by
 show wpAny _ _ (field (.ref z) 2 >>= λ _=>_) _ _ _;refine J7 (Ka gz rfl (x:=.bool false) rfl ?_);show wpAny _ _ (field (.ref z) 3 >>= λ _=>_) _ _ _;refine J7 (Ka gz rfl (x:=.ref p) rfl (J7 (Kd gp rfl ?_)));show wpAny _ _ (Builtin.SmallTypes.ownedTupleIsFree (.ref z) >>= λ _=>_) _ _ _;refine J7 ?_;unfold Builtin.SmallTypes.ownedTupleIsFree;refine J7 (Ka gz rfl (x:=.none) rfl (J8 ?_));simp only[if_true];refine J7 (Kf (J7 (Ka gz rfl (x:=.ref q) rfl (J7 (Kg gz (by simp) λ g1 gz1 t1=>?_)))))
 replace gz1:IsZip g1 z p q .ellipsis:=gz1
 refine J7 ?_;simp only[IG,IZ,JG,JH];refine J7 (J7 (Km ?_));show wpAny _ _ (Builtin.SmallTypes.nextOf (.ref j) >>= λ _=>_) _ _ _;cases hx:xs[m]? with
 | none =>
  refine J7 (qX ha (gj.extBut t1.extBut D.jz) (fc ga λ o e=>t1.extBut _ _ D.az e) hx λ g2 e t2 he=>?_);obtain⟨oe,eoe,ce⟩:=he;have gz2:IsZip g2 z p q .ellipsis:=t2 _ _ D.jz.symm gz1;have ne:e≠z:=λ x=>by subst x;rw[gz2] at eoe;cases eoe;simp at ce
  exact Kg gz2 (by simp) λ g3 _ t3=>hE g3 e (λ c o c1 _ c3 _ x=>t3.extBut _ _ c1 (t2 _ _ c3 (t1.extBut _ _ c1 x))) ⟨oe,t3.extBut _ _ ne eoe,ce⟩
 | some x =>
  have hy:ys[n]?=none:=hend.elim (λ h=>by rw[hx] at h;cases h) id;refine J7 (kB (gj.extBut t1.extBut D.jz) (fc ga λ o e=>t1.extBut _ _ D.az e) hx λ g2 gj2 t2=>J8 ?_);have gq2:IsPair g2 q u v:=t2.extBut _ _ D.qj (t1.extBut _ _ D.qz gq);refine J7 (Kd gq2 rfl (J7 (KI gq2 λ g3 gq3 t3=>?_)));refine J7 (Kq (J8 (J7 (J7 (Km ?_)))));show wpAny _ _ (Builtin.SmallTypes.nextOf (.ref k) >>= λ _=>_) _ _ _;refine J7 (qX ha (((gk.extBut t1.extBut D.kz).extBut t2.extBut D.jk.symm).extBut t3.extBut D.qk.symm) (fc gb λ o e=>t3.extBut _ _ D.bq (t2.extBut _ _ D.bj (t1.extBut _ _ D.bz e))) hy λ g4 e t4 he=>?_);obtain⟨oe,eoe,ce⟩:=he;have gz4:IsZip g4 z p q .ellipsis:=t4 _ _ D.kz.symm (t3.extBut _ _ D.qz.symm (t2.extBut _ _ D.jz.symm gz1));have ne:e≠z:=λ x=>by subst x;rw[gz4] at eoe;cases eoe;simp at ce
  exact Kg gz4 (by simp) λ g5 _ t5=>hE g5 e (λ c o c1 c2 c3 c4 x=>t5.extBut _ _ c1 (t4 _ _ c4 (t3.extBut _ _ c2 (t2.extBut _ _ c3 (t1.extBut _ _ c1 x))))) ⟨oe,t5.extBut _ _ ne eoe,ce⟩
theorem Dn {z p q j k a b:Addr}{m n:Nat}{xs ys:Array Value}{x y u v:Value}{Q:Option Value->Shared->Prop}(D:wY z p q j k a b)
  (gz:IsZip s.heap z p q .none) (gp:IsPair s.heap p (.ref j) (.ref k)) (gq:IsPair s.heap q u v)
  (gj:s.heap.IsTupleIter j a m) (gk:s.heap.IsTupleIter k b n) (ga:s.heap.IsTuple a xs) (gb:s.heap.IsTuple b ys) (hx:xs[m]?=some x) (hy:ys[n]?=some y)
  (hQ:∀g,IsZip g z p q (rawInt s.heap.objs.size)->IsPair g q x y->g.IsTupleIter j a (m+1)->g.IsTupleIter k b (n+1)->IsPair g s.heap.objs.size x y->g.objs.size=s.heap.objs.size+1 ->
   (∀c o,c≠z->c≠q->c≠j->c≠k->s.heap.get? c=some o->g.get? c=some o)->Q (some (.ref s.heap.objs.size)) { s with heap:=g }) :
  wpAny (model prog w) A (pyNext (.ref z)) Q E s:=by
 have ty:s.TypeIs (.ref z) "zip" := ⟨_,gz,rfl⟩;unfold pyNext;exact J7 (Ki (wpAny_callSpecial?_slot (name:=Str.ofString "__next__") ty F.slot_zip_next (Kc F.slot_zip_next ty F.entry_zip_next
   (Dm D gz gp gq gj gk ga gb hx hy λ g a1 a2 a3 a4 a5 a6 a7=>J8 (hQ g a1 a2 a3 a4 a5 a6 a7)) (F.args_zip_next_1 _))))
theorem Dp {z p q j k a b:Addr}{m n:Nat}{xs ys:Array Value}{u v:Value}{Q:Option Value->Shared->Prop}(ha:A.handled=none)(D:wY z p q j k a b)
  (gz:IsZip s.heap z p q .none) (gp:IsPair s.heap p (.ref j) (.ref k)) (gq:IsPair s.heap q u v)
  (gj:s.heap.IsTupleIter j a m) (gk:s.heap.IsTupleIter k b n) (ga:s.heap.IsTuple a xs) (gb:s.heap.IsTuple b ys) (hend:xs[m]?=none\/ys[n]?=none)
  (hQ:∀g,(∀c o,c≠z->c≠q->c≠j->c≠k->s.heap.get? c=some o->g.get? c=some o)->Q none { s with heap:=g }):wpAny (model prog w) A (pyNext (.ref z)) Q E s:=by
 have ty:s.TypeIs (.ref z) "zip" := ⟨_,gz,rfl⟩;unfold pyNext;refine J7 (Ki (wpAny_callSpecial?_slot (name:=Str.ofString "__next__") ty F.slot_zip_next (Kc F.slot_zip_next ty F.entry_zip_next
   (EK ha D gz gp gq gj gk ga gb hend λ g e hk he=>?_) (F.args_zip_next_1 _))))
 obtain⟨o,eo,ec⟩:=he;exact J7 (Ks (T := "StopIteration") (b:=true) ⟨o,eo,ec⟩ isSubtype_stop (J8 (hQ _ hk)))
abbrev pP (h:Heap)(a:Addr):Heap:=h.push { cls:=.type "tuple_iterator",data:=.fields #[.ref a,.int 0 0] }
abbrev pQ (h:Heap)(a b:Addr):Heap:=(pP h a).push { cls:=.type "tuple_iterator",data:=.fields #[.ref b,.int 0 0] }
abbrev CH (h:Heap)(a b:Addr):Heap:=(pQ h a b).push { cls:=.type "tuple",data:=.seq #[.ref h.objs.size,.ref (pP h a).objs.size] }
abbrev CI (h:Heap)(a b:Addr):Heap:=(CH h a b).push { cls:=.type "tuple",data:=.seq #[.none,.none] }
abbrev wZ (h:Heap)(a b:Addr):Heap:=(CI h a b).push { cls:=.type "zip",data:=.fields #[.none,.bool false,.bool false,.ref (pQ h a b).objs.size,.ref (CH h a b).objs.size] }
theorem EL (a b:Addr) (xs ys:Array Value):Meets (Builtin.«zip.__new__» ⟨[.type "zip",.ref a,.ref b],[]⟩) (λ _ R s=>s.heap.IsTuple a xs/\s.heap.IsTuple b ys /\
   R (.ok (.ret (.ref (CI s.heap a b).objs.size))) { s with heap:=wZ s.heap a b }) :=
 .of_wp λ P w' A' R' s' hh=>by
  obtain⟨hp,g,d,tk,os⟩:=s';obtain⟨ga,gb,hh⟩:=hh;have hsub:=sub_zip;have la:Jp (Jq ⟨hp,g,d,tk,os⟩) a xs:=ga;have lb:Jp (Jq ⟨pP hp a,g,d,tk,os⟩) b ys:=fc gb λ o e=>Hr _ e
  wp_walk using Ko la,Ko lb
  exact⟨_,rfl,hh⟩
theorem Dq {a b:Addr}{xs ys:Array Value}{Q:AT}(ga:s.heap.IsTuple a xs)(gb:s.heap.IsTuple b ys)
  (h:∀g,IsZip g (s.heap.objs.size+4) (s.heap.objs.size+2) (s.heap.objs.size+3) .none->IsPair g (s.heap.objs.size+2) (.ref s.heap.objs.size) (.ref (s.heap.objs.size+1)) ->
   IsPair g (s.heap.objs.size+3) .none .none->g.IsTupleIter s.heap.objs.size a 0->g.IsTupleIter (s.heap.objs.size+1) b 0 ->
   (∀c o,s.heap.get? c=some o->g.get? c=some o)->Q (.ref (s.heap.objs.size+4)) { s with heap:=g }) :
  wpAny (model prog w) A (call (.type "zip") [.ref a,.ref b]) Q E s:=by
 refine callType_new F.called_zip ⋯ (F.typeCall_zip_2 _ _) (F.newCall_zip_2 _ _) (λ obj=>F.args_object_init_3 obj _ _) F.entry_zip_new (EL a b xs ys) ⟨ga,gb,?_⟩;have z1:(pP s.heap a).objs.size=s.heap.objs.size+1:=HJ ..;have z2:(pQ s.heap a b).objs.size=s.heap.objs.size+2:=by rw[HJ,z1]
 have z3:(CH s.heap a b).objs.size=s.heap.objs.size+3:=by rw[HJ,z2]
 have z4:(CI s.heap a b).objs.size=s.heap.objs.size+4:=by rw[HJ,z3]
 have up:∀{h:Heap} {c:Addr} {o o':Obj},h.get? c=some o->(h.push o').get? c=some o:=λ e=>Hr _ e
 have q5:(wZ s.heap a b).get? (CI s.heap a b).objs.size=some _:=Hs _ rfl;have q4:(wZ s.heap a b).get? (CH s.heap a b).objs.size=some _:=up (Hs _ rfl);have q3:(wZ s.heap a b).get? (pQ s.heap a b).objs.size=some _:=up (up (Hs _ rfl));have q2:(wZ s.heap a b).get? (pP s.heap a).objs.size=some _:=up (up (up (Hs _ rfl)));have q1:(wZ s.heap a b).get? s.heap.objs.size=some _:=up (up (up (up (Hs _ rfl))));show _/\_;rw[z2,z3,z4] at q5;rw[z1,z2] at q3;rw[z3] at q4;rw[z1] at q2;rw[z4];exact⟨⟨_,q5,rfl⟩,h _ q5 q3 q4 ⟨_,q1,rfl,rfl⟩ ⟨_,q2,rfl,rfl⟩ λ c o x=>up (up (up (up (up x))))⟩
end
section
variable {X:Cx}{pins:BT}{Hh : List (Option V)}{H H':Hp}{s:Shared}{h':Heap}
theorem Inv.je {t':Nat}{fp:List Addr}(I:Inv X pins Hh H s)(k:∀b o,b∉fp->s.heap.get? b=some o->h'.get? b=some o)(f:∀b∈fp,iq X pins H b):Inv X pins Hh H { s with heap:=h',toks:=t' }:=by
 have nit:∀b u,H b=some u->b∉fp:=λ b u e z=>by rw[(f b z).1] at e;cases e
 refine I.step (g':=s.gens) (d':=s.drawn) (ch:=fp) (λ b hb=>?_) (λ b o _ _ hc e _=>k b o hc e) (λ b o _ _ hc e _=>⟨o.slots,k b o hc e⟩) (λ _ _ _ _ n=>n)
  (λ b o hc e=>⟨o,k b o hc e⟩) (λ _ _ e=>e) (λ _ _ _ e=>e) (λ b ps e=>⟨#[],by rw[e];simp⟩) (λ m hm=>?_) (λ b u e=>?_) I.bare
 ·obtain⟨f0,f1,f2,f3,f4,f5⟩:=f b hb;exact⟨f3,f1,f4,f5⟩
 ·obtain⟨o,es,ep,ho,r⟩:=hm;exact⟨o,es,ep,k _ o (λ z=>(f _ z).2.1 rfl) ho,r⟩
 ·refine (I.bc b u e).oQ (λ c v hc q=>k c v ?_ q) (λ _ q=>q) λ _ _ q=>q
  rcases hc with z | z
  ·rw[z];exact nit b u e
  ·exact nit c _ z
def CJ (K:Hl)(a b:Addr):It :=
 ⟨λ i H=>∃xs ys x y,au K H a xs/\au K H b ys/\xs[i]?=some x/\ys[i]?=some y,
  λ i H v H'=>∃t x y,v=.ref t/\H t=none/\H' = upd H t (.tup [x,y])/\∀xs ys,au K H a xs->au K H b ys->xs[i]?=some x/\ys[i]?=some y,
  λ i H=>∃xs ys,au K H a xs/\au K H b ys/\(xs.length<=i\/ys.length<=i)⟩
theorem A1 {P:Program}{w:World}{K:Hl}{elts:List Expr}{kk:Nat}{pos:Pos}(a b z p q j k:Addr)(D:wY z p q j k a b) :
    Turn P w K (.Tuple elts kk pos) (CJ K a b) [z,p,q,j,k] z (λ i h=>IsZip h z p q .none/\IsPair h p (.ref j) (.ref k)/\(∃u v,IsPair h q u v)/\h.IsTupleIter j a i/\h.IsTupleIter k b i) where
  mem:=by simp
  obj:=λ i h st c hc=>by
    obtain⟨gz,gp,⟨u,v,gq⟩,⟨oj,ej,cj,dj⟩,⟨ok,ek,ck,dk⟩⟩:=st;simp only[Ho,Ie,or_false] at hc
    rcases hc with rfl | rfl | rfl | rfl | rfl
    . exact⟨_,gz,λ v e=>by cases e⟩
    . exact⟨_,gp,λ v e=>by cases e⟩
    . exact⟨_,gq,λ v e=>by cases e⟩
    . exact⟨oj,ej,λ v e=>by rw[dj] at e;cases e⟩
    . exact⟨ok,ek,λ v e=>by rw[dk] at e;cases e⟩
  keep:=λ i h g st kp=>by
    obtain⟨gz,gp,⟨u,v,gq⟩,⟨oj,ej,rj⟩,⟨ok,ek,rk⟩⟩:=st;exact⟨kp z (by simp) _ gz,kp p (by simp) _ gp,⟨u,v,kp q (by simp) _ gq⟩,⟨oj,kp j (by simp) _ ej,rj⟩,⟨ok,kp k (by simp) _ ek,rk⟩⟩
  item:=by
    intro X hP hw hK hc i pins s Hh H E I hf st hg;subst hP hw hK;obtain⟨gz,gp,⟨u,v,gq⟩,gj,gk⟩:=st;obtain⟨xs,ys,x,y,ha,hb,hx,hy⟩:=hg;obtain⟨is,ra,pa,_⟩:=I.tuple ha;obtain⟨js,rb,pb,_⟩:=I.tuple hb;obtain⟨xv,hxv,rx⟩:=ra.get hx;obtain⟨yv,hyv,ry⟩:=rb.get hy;have sz:∀c∈[z,p,q,j,k],c≠s.heap.objs.size:=λ c hc e=>by
      subst e;simp only[Ho,Ie,or_false] at hc
      rcases hc with e | e | e | e | e
      . exact absurd (Hq gz) (by rw[<-e];exact HG _)
      . exact absurd (Hq gp) (by rw[<-e];exact HG _)
      . exact absurd (Hq gq) (by rw[<-e];exact HG _)
      . obtain⟨oj,ej,_⟩:=gj
        exact absurd (Hq ej) (by rw[<-e];exact HG _)
      . obtain⟨ok,ek,_⟩:=gk
        exact absurd (Hq ek) (by rw[<-e];exact HG _)
    refine Dn D gz gp gq gj gk (show s.heap.IsTuple a is.toArray from pa) (show s.heap.IsTuple b js.toArray from pb) (x:=xv) (y:=yv) (by simpa using hxv) (by simpa using hyv) λ g a1 a2 a3 a4 a5 a6 hk=>?_
    refine⟨.ref s.heap.objs.size,rfl,KJ a1 λ g' gz' sb=>?_⟩;have fr:=I.bc.fresh (a:=s.heap.objs.size) (Hn _);have I1:Inv X pins Hh (upd H s.heap.objs.size (.tup [x,y])) { s with heap:=s.heap.push { cls:=.type "tuple",data:=.seq #[xv,yv] },toks:=s.toks } :=
      I.laid (λ _ _ e=>Hr _ e) (Hn _) ⟨by show 2<=sizeLine;decide,[xv,yv],.cons rx (.cons ry .nil),by first | exact IsTup.new _ _ | exact⟨_,Hs _ rfl,rfl,_,rfl,rfl⟩⟩
    have f1:∀c∈[z,p,q,j,k],iq X pins (upd H s.heap.objs.size (.tup [x,y])) c:=λ c hc=>by
      obtain⟨f0,fr'⟩:=hf c hc;exact⟨by rw[av (sz c hc)];exact f0,fr'⟩
    have I2:Inv X pins Hh (upd H s.heap.objs.size (.tup [x,y])) { s with heap:=g',toks:=s.toks }:=Inv.je (s:={ s with heap:=s.heap.push { cls:=.type "tuple",data:=.seq #[xv,yv] },toks:=s.toks }) (fp:=[z,p,q,j,k]) (h':=g') (t':=s.toks) I1 (λ c o hc e=>by
      simp only[Ho,Ie,or_false,not_or] at hc;refine sb.extBut _ _ hc.1 ?_
      rcases J2 e with ⟨rfl,rfl⟩ | e
      . exact a5
      . exact hk c o hc.1 hc.2.2.1 hc.2.2.2.1 hc.2.2.2.2 e) f1
    refine⟨.ref s.heap.objs.size,_,I2,rfl,⟨_,x,y,rfl,fr,rfl,λ xs' ys' h1 h2=>?_⟩,⟨gz',sb.extBut _ _ D.pz (hk _ _ D.pz D.pq D.pj D.pk gp),⟨xv,yv,sb.extBut _ _ D.qz a2⟩,a3.extBut sb.extBut D.jz,a4.extBut sb.extBut D.kz⟩,λ c hc=>(f1 c hc).1⟩;rw[I.gS h1 ha,I.gS h2 hb];exact⟨hx,hy⟩
  done:=by
    intro X hP hw hK hc i pins s Hh H E I hf st hg;subst hP hw hK;obtain⟨gz,gp,⟨u,v,gq⟩,gj,gk⟩:=st;obtain⟨xs,ys,ha,hb,hl⟩:=hg;obtain⟨is,ra,pa,_⟩:=I.tuple ha;obtain⟨js,rb,pb,_⟩:=I.tuple hb;have la:=ra.length;have lb:=rb.length;have he:is.toArray[i]?=none\/js.toArray[i]?=none:=by
      rcases hl with h | h
      . exact .inl (by simp;omega)
      . exact .inr (by simp;omega)
    exact Dp (I.ok.hd hc) D gz gp gq gj gk (show s.heap.IsTuple a is.toArray from pa) (show s.heap.IsTuple b js.toArray from pb) he λ g hk=>⟨rfl,I.je (fp:=[z,p,q,j,k]) (t':=s.toks) (λ c o hc e=>by
      simp only[Ho,Ie,or_false,not_or] at hc;exact hk c o hc.1 hc.2.2.1 hc.2.2.2.1 hc.2.2.2.2 e) hf⟩
  self:=λ _ _ _ _ _ st h=>Kt st.1 h
theorem FY {N a b:Nat}(ha:a<N)(hb:b<N):wY (N+4:Nat) (N+2:Nat) (N+3:Nat) N (N+1:Nat) a b :=
 have ne:∀{u v:Nat},u<v->¬(u=v):=λ h e=>by omega
 have ne':∀{u v:Nat},v<u->¬(u=v):=λ h e=>by omega
 ⟨ne ⋯,ne ⋯,ne ⋯,ne ⋯,ne ⋯,ne' ⋯,ne' ⋯,ne' ⋯,ne' ⋯,ne ⋯,ne ⋯,ne ⋯,ne ⋯,ne ⋯,ne ⋯,ne ⋯,ne ⋯,ne ⋯⟩
theorem uO:bootBuiltins "zip" = some (.type "zip"):=by decide
inductive Dr (K:Hl) (R:(It->Hp->Prop)) (vs:List V) (H1:Hp):Prop
 | mk (a b:_) (_:vs=[.ref a,.ref b]) (_:(∃xs,au K H1 a xs)) (_:(∃ys,au K H1 b ys)) (_:R (CJ K a b) H1)
def GP (K:Hl)(ta:TA):TI:=λ Hh H R=>ta Hh H λ vs H1=>Dr K R vs H1
theorem uP {a b:Expr} {ta:TA} {p pos tp:Pos} {elts:List Expr} {kk:Nat} (hg:Gl X "zip") (hm:X.mg "zip" = none) (ha:PA X [a,b] ta) (hs:starEach [a,b] X.env=[(false,eval a X.env),(false,eval b X.env)]:=by rfl) (hs2:starEach [b] X.env=[(false,eval b X.env)]:=by rfl) :
  PI X (.Tuple elts kk tp) (.Call (.Name "zip" p) [a,b] [] pos) (GP X.K ta):=by
 intro pins s Hh H R I h;refine Call_ (iM I hg hm uO (PyProof.Rows.callWith_type1 (bx (ha pos pins s Hh H _ I h) λ us s1 ⟨vs,H1,I1,r1,q1⟩=>?_) (by rw[hs,hs2]) (by rw[hs2];rfl)));obtain⟨x,y,e,⟨xs,hx⟩,⟨ys,hy⟩,q⟩:=q1;subst e;cases r1 with
 | cons r rr =>
  cases rr with
  | cons r' rr =>
   cases rr;cases r;cases r';obtain⟨is,rx,px,_⟩:=I1.tuple hx;obtain⟨js,ry,py,_⟩:=I1.tuple hy;have lx:x<s1.heap.objs.size:=px.lt;have ly:y<s1.heap.objs.size:=py.lt;refine Dq (show s1.heap.IsTuple x is.toArray from px) (show s1.heap.IsTuple y js.toArray from py) λ g gz gp gq gj gk up=>?_
   refine Kt gz ?_;have I2:Inv X pins Hh H1 { s1 with heap:=g }:=I1.kept (t':=s1.toks) up;refine⟨_,[s1.heap.objs.size+4,s1.heap.objs.size+2,s1.heap.objs.size+3,s1.heap.objs.size,s1.heap.objs.size+1],_,CJ X.K x y,H1,rfl,I2,A1 x y _ _ _ _ _ ?_,⟨gz,gp,⟨_,_,gq⟩,gj,gk⟩,λ c hc=>?_,q⟩
   ·exact FY lx ly
   ·have le:s1.heap.objs.size<=c:=by
     simp only[Ho,Ie,or_false] at hc
     rcases hc with rfl | rfl | rfl | rfl | rfl
     ·exact Ii _ _
     ·exact Ii _ _
     ·exact Ii _ _
     ·exact Hn _
     ·exact Ii _ _
    exact I1.kT le (I1.bc.fresh le)
theorem uQ {K:Hl}{a b acc:Addr}{xs ys:List V}{n:Nat}{js:List Nat}{g:TG}{ct:TT}{te:TE}{Hh : St}{H1:Hp}{Q:VK}(Pv:Nat->List V->St->Hp->Prop)(h0:Pv 0 [] (oh n js Hh) (upd H1 acc (.lst [])))
  (hl:∀i zs Hi H,i<=min xs.length ys.length->Pv i zs Hi H->au K H a xs/\au K H b ys/\H acc=some (.lst zs)/\zs.length<sizeLine)
  (hs:∀i x y zs Hi H t,xs[i]?=some x->ys[i]?=some y->H t=none->Pv i zs Hi H->g (.ref t) Hi (upd H t (.tup [x,y])) λ τ1 H4=>ct τ1 H4 λ b H5=>if b=true then te τ1 H5 λ v H6=>H6 acc=some (.lst zs)/\Pv (i+1) (zs++[v]) τ1 (upd H6 acc (.lst (zs++[v]))) else Pv (i+1) zs τ1 H5)
  (hd:∀zs Hi H,Pv (min xs.length ys.length) zs Hi H->Q (.ref acc) H) :
  wW (CJ K a b) n js g ct te acc Hh H1 Q:=by
 exists λ i m zs Hi H=>m=min xs.length ys.length-i/\i<=min xs.length ys.length/\Pv i zs Hi H,⟨min xs.length ys.length,by simp,HL _,h0⟩;rintro i m zs Hi H ⟨rfl,hi,p⟩;obtain⟨qa,qb,q2,q3⟩:=hl i zs Hi H hi p;exists q2,q3;by_cases hlt:i<min xs.length ys.length
 ·have l1:i<xs.length:=by omega
  have l2:i<ys.length:=by omega
  refine .inr ⟨⟨xs,ys,xs[i],ys[i],qa,qb,by simp[l1],by simp[l2]⟩,Pv (i+1),λ zs' τ' H' p'=>⟨min xs.length ys.length-(i+1),by omega,rfl,hlt,p'⟩,λ v H' y=>?_⟩;obtain⟨t,x,y,rfl,ht,rfl,h⟩:=y;obtain⟨h1,h2⟩:=h xs ys qa qb;exact hs i x y zs Hi H t h1 h2 ht p
 ·have e:i=min xs.length ys.length:=by omega
  subst e;refine .inl ⟨⟨xs,ys,qa,qb,?_⟩,hd zs Hi H p⟩
  rcases Nat.le_total xs.length ys.length with h | h
  ·exact .inl ⋯
  ·exact .inr ⋯
end
abbrev d7 (h:Heap)(T:Addr)(a b c:Value):Prop:=h.get? T=some { cls:=.type "tuple",data:=.seq #[a,b,c] }
structure CK (z p q j k l a b c:Addr):Prop where
 pz:p≠z
 qz:q≠z
 jz:j≠z
 kz:k≠z
 lz:l≠z
 pq:p≠q
 pj:p≠j
 pk:p≠k
 pl:p≠l
 qj:q≠j
 qk:q≠k
 ql:q≠l
 jk:j≠k
 jl:j≠l
 kl:k≠l
 az:a≠z
 aq:a≠q
 aj:a≠j
 ak:a≠k
 al:a≠l
 bz:b≠z
 bq:b≠q
 bj:b≠j
 bk:b≠k
 bl:b≠l
 cz:c≠z
 cq:c≠q
 cj:c≠j
 ck:c≠k
 cl:c≠l
section
variable {prog:Program}{w:World}{A:Around}{E:AT}{s:Shared}
theorem iu {T:Addr}{a b c x:Value}{k:Nat}{Q:Unit->Shared->Prop}(hT:d7 s.heap T a b c)
  (h:∀h',h'.get? T=some { cls:=.type "tuple",data:=.seq ((#[a,b,c]:Array Value).setIfInBounds k x) }->HR T s.heap h'->Q () { s with heap:=h' }) :
  wpAny (model prog w) A (updateSeq T (·.setIfInBounds k x)) Q E s:=by
 refine wpAny_updateSeq hT rfl (h _ ?_ (HR.update ..));rw[IA _ hT rfl];simp[Obj.mapSeq]
theorem Ds {z p q j k l a b c:Addr}{m n o:Nat}{xs ys ws:Array Value}{x y r u v t:Value}{Q:AT}(D:CK z p q j k l a b c)
  (gz:IsZip s.heap z p q .none) (gp:d7 s.heap p (.ref j) (.ref k) (.ref l)) (gq:d7 s.heap q u v t)
  (gj:s.heap.IsTupleIter j a m) (gk:s.heap.IsTupleIter k b n) (gl:s.heap.IsTupleIter l c o) (ga:s.heap.IsTuple a xs) (gb:s.heap.IsTuple b ys) (gc:s.heap.IsTuple c ws) (hx:xs[m]?=some x) (hy:ys[n]?=some y) (hw:ws[o]?=some r)
  (hQ:∀g,IsZip g z p q (rawInt s.heap.objs.size)->d7 g q x y r->g.IsTupleIter j a (m+1)->g.IsTupleIter k b (n+1)->g.IsTupleIter l c (o+1)->d7 g s.heap.objs.size x y r->g.objs.size=s.heap.objs.size+1 ->
   (∀c o,c≠z->c≠q->c≠j->c≠k->c≠l->s.heap.get? c=some o->g.get? c=some o)->Q (.ref s.heap.objs.size) { s with heap:=g }) :
  wpAny (model prog w) A (Builtin.«zip.__next__» ⟨[.ref z],[]⟩) (λ fin s'=>∃v,fin=.done (.ret v)/\Q v s') E s:=by
 show wpAny _ _ (field (.ref z) 2 >>= λ _=>_) _ _ _;refine J7 (Ka gz rfl (x:=.bool false) rfl ?_);show wpAny _ _ (field (.ref z) 3 >>= λ _=>_) _ _ _;refine J7 (Ka gz rfl (x:=.ref p) rfl (J7 (Kd gp rfl ?_)));show wpAny _ _ (Builtin.SmallTypes.ownedTupleIsFree (.ref z) >>= λ _=>_) _ _ _;refine J7 ?_;unfold Builtin.SmallTypes.ownedTupleIsFree;refine J7 (Ka gz rfl (x:=.none) rfl (J8 ?_));simp only[if_true];refine J7 (Kf (J7 (Ka gz rfl (x:=.ref q) rfl (J7 (Kg gz (by simp) λ g1 gz1 t1=>?_)))))
 replace gz1:IsZip g1 z p q .ellipsis:=gz1
 refine J7 ?_;simp only[IG,IZ,JG,JH];refine J7 (J7 (Km ?_));show wpAny _ _ (Builtin.SmallTypes.nextOf (.ref j) >>= λ _=>_) _ _ _;refine J7 (kB (gj.extBut t1.extBut D.jz) (fc ga λ o e=>t1.extBut _ _ D.az e) hx λ g2 gj2 t2=>J8 ?_);have gq2:d7 g2 q u v t:=t2.extBut _ _ D.qj (t1.extBut _ _ D.qz gq);refine J7 (Kd gq2 rfl (J7 (iu gq2 λ g3 gq3 t3=>?_)))
 replace gq3:d7 g3 q x v t:=gq3
 refine J7 (Kq (J8 (J7 (J7 (Km ?_)))));show wpAny _ _ (Builtin.SmallTypes.nextOf (.ref k) >>= λ _=>_) _ _ _;refine J7 (kB (((gk.extBut t1.extBut D.kz).extBut t2.extBut D.jk.symm).extBut t3.extBut D.qk.symm) (fc gb λ o e=>t3.extBut _ _ D.bq (t2.extBut _ _ D.bj (t1.extBut _ _ D.bz e))) hy λ g4 gk4 t4=>J8 ?_);have gq4:d7 g4 q x v t:=t4.extBut _ _ D.qk gq3;refine J7 (Kd gq4 rfl (J7 (iu gq4 λ g5 gq5 t5=>?_)))
 replace gq5:d7 g5 q x y t:=gq5
 refine J7 (Kq (J8 (J7 (J7 (Km ?_)))));show wpAny _ _ (Builtin.SmallTypes.nextOf (.ref l) >>= λ _=>_) _ _ _;refine J7 (kB (((((gl.extBut t1.extBut D.lz).extBut t2.extBut D.jl.symm).extBut t3.extBut D.ql.symm).extBut t4.extBut D.kl.symm).extBut t5.extBut D.ql.symm) (fc gc λ o e=>t5.extBut _ _ D.cq (t4.extBut _ _ D.ck (t3.extBut _ _ D.cq (t2.extBut _ _ D.cj (t1.extBut _ _ D.cz e))))) hw λ g6 gl6 t6=>J8 ?_);have gq6:d7 g6 q x y t:=t6.extBut _ _ D.ql gq5;refine J7 (Kd gq6 rfl (J7 (iu gq6 λ g9 gq9 t9=>?_)))
 replace gq9:d7 g9 q x y r:=gq9
 refine J7 (Kq (J8 (J8 (J7 (Kd gq9 rfl (J7 (wpAny_newTuple ?_)))))));have ez:g9.objs.size=s.heap.objs.size:=by rw[t9.1,t6.1,t5.1,t4.1,t3.1,t2.1,t1.1]
 have gz9:IsZip g9 z p q .ellipsis:=t9.extBut _ _ D.qz.symm (t6.extBut _ _ D.lz.symm (t5.extBut _ _ D.qz.symm (t4.extBut _ _ D.kz.symm (t3.extBut _ _ D.qz.symm (t2.extBut _ _ D.jz.symm gz1)))));have k9:∀c o,c≠z->c≠q->c≠j->c≠k->c≠l->s.heap.get? c=some o->g9.get? c=some o:=λ c o c1 c2 c3 c4 c5 e=>t9.extBut _ _ c2 (t6.extBut _ _ c5 (t5.extBut _ _ c2 (t4.extBut _ _ c4 (t3.extBut _ _ c2 (t2.extBut _ _ c3 (t1.extBut _ _ c1 e))))))
 have gj9:g9.IsTupleIter j a (m+1):=((((gj2.extBut t3.extBut D.qj.symm).extBut t4.extBut D.jk).extBut t5.extBut D.qj.symm).extBut t6.extBut D.jl).extBut t9.extBut D.qj.symm;have gk9:g9.IsTupleIter k b (n+1):=((gk4.extBut t5.extBut D.qk.symm).extBut t6.extBut D.kl).extBut t9.extBut D.qk.symm;have gl9:g9.IsTupleIter l c (o+1):=gl6.extBut t9.extBut D.ql.symm;have lz:z<g9.objs.size:=Hq gz9;show wpAny _ _ (Builtin.SmallTypes.ownedTupleHandOut (.ref z) (.ref g9.objs.size) >>= λ _=>_) _ _ _;refine J7 ?_;unfold Builtin.SmallTypes.ownedTupleHandOut;have gz6:IsZip (g9.push { cls:=.type "tuple",data:=.seq #[x,y,r] }) z p q .ellipsis:=Hr _ gz9;refine J7 (Kg gz6 (by simp) λ g7 gz7 t7=>?_)
 replace gz7:IsZip g7 z p q (rawInt g9.objs.size):=gz7
 refine Kg gz7 (by simp) λ g8 gz8 t8=>?_
 replace gz8:IsZip g8 z p q (rawInt g9.objs.size):=gz8
 have up:∀c o,c≠z->g9.get? c=some o->g8.get? c=some o:=λ c o c1 e=>t8.extBut _ _ c1 (t7.extBut _ _ c1 (Hr _ e))
 have gT:d7 g8 g9.objs.size x y r:=t8.extBut _ _ (Iv lz) (t7.extBut _ _ (Iv lz) (Hs _ rfl));have e8:g8.objs.size=g9.objs.size+1:=by rw[t8.1,t7.1,HJ]
 rw[ez] at gz8 gT e8;refine J8 ⟨_,rfl,?_⟩;show Q (.ref g9.objs.size) _;rw[ez];refine hQ g8 gz8 (up _ _ D.qz gq9) ?_ ?_ ?_ gT e8 λ c o c1 c2 c3 c4 c5 e=>up c o c1 (k9 c o c1 c2 c3 c4 c5 e)
 ·obtain⟨o,e,r⟩:=gj9;exact⟨o,up _ _ D.jz e,r⟩
 ·obtain⟨o,e,r⟩:=gk9;exact⟨o,up _ _ D.kz e,r⟩
 ·obtain⟨o,e,r⟩:=gl9;exact⟨o,up _ _ D.lz e,r⟩
theorem EM {z p q j k l a b c:Addr}{m:Nat}{xs:Array Value}{u v t:Value}{Q:Fin->Shared->Prop}(ha:A.handled=none)(D:CK z p q j k l a b c)
  (gz:IsZip s.heap z p q .none) (gp:d7 s.heap p (.ref j) (.ref k) (.ref l)) (gj:s.heap.IsTupleIter j a m) (ga:s.heap.IsTuple a xs) (hx:xs[m]?=none)
  (hE:∀g e,(∀c o,c≠z->c≠q->c≠j->c≠k->c≠l->s.heap.get? c=some o->g.get? c=some o)->(∃o,g.get? e=some o/\o.cls=.type "StopIteration")->E (.ref e) { s with heap:=g }) :
  wpAny (model prog w) A (Builtin.«zip.__next__» ⟨[.ref z],[]⟩) Q E s:=by
 show wpAny _ _ (field (.ref z) 2 >>= λ _=>_) _ _ _;refine J7 (Ka gz rfl (x:=.bool false) rfl ?_);show wpAny _ _ (field (.ref z) 3 >>= λ _=>_) _ _ _;refine J7 (Ka gz rfl (x:=.ref p) rfl (J7 (Kd gp rfl ?_)));show wpAny _ _ (Builtin.SmallTypes.ownedTupleIsFree (.ref z) >>= λ _=>_) _ _ _;refine J7 ?_;unfold Builtin.SmallTypes.ownedTupleIsFree;refine J7 (Ka gz rfl (x:=.none) rfl (J8 ?_));simp only[if_true];refine J7 (Kf (J7 (Ka gz rfl (x:=.ref q) rfl (J7 (Kg gz (by simp) λ g1 gz1 t1=>?_)))))
 replace gz1:IsZip g1 z p q .ellipsis:=gz1
 refine J7 ?_;simp only[IG,IZ,JG,JH];refine J7 (J7 (Km ?_));show wpAny _ _ (Builtin.SmallTypes.nextOf (.ref j) >>= λ _=>_) _ _ _;refine J7 (qX ha (gj.extBut t1.extBut D.jz) (fc ga λ o e=>t1.extBut _ _ D.az e) hx λ g2 e t2 he=>?_);obtain⟨oe,eoe,ce⟩:=he;have gz2:IsZip g2 z p q .ellipsis:=t2 _ _ D.jz.symm gz1;have ne:e≠z:=λ x=>by subst x;rw[gz2] at eoe;cases eoe;simp at ce
 exact Kg gz2 (by simp) λ g3 _ t3=>hE g3 e (λ c o c1 _ c3 _ _ x=>t3.extBut _ _ c1 (t2 _ _ c3 (t1.extBut _ _ c1 x))) ⟨oe,t3.extBut _ _ ne eoe,ce⟩
abbrev CL (h:Heap)(a b c:Addr):Heap:=(pQ h a b).push { cls:=.type "tuple_iterator",data:=.fields #[.ref c,.int 0 0] }
abbrev CM (h:Heap)(a b c:Addr):Heap:=(CL h a b c).push { cls:=.type "tuple",data:=.seq #[.ref h.objs.size,.ref (pP h a).objs.size,.ref (pQ h a b).objs.size] }
abbrev CN (h:Heap)(a b c:Addr):Heap:=(CM h a b c).push { cls:=.type "tuple",data:=.seq #[.none,.none,.none] }
abbrev uR (h:Heap)(a b c:Addr):Heap:=(CN h a b c).push { cls:=.type "zip",data:=.fields #[.none,.bool false,.bool false,.ref (CL h a b c).objs.size,.ref (CM h a b c).objs.size] }
theorem EN (a b c:Addr) (xs ys ws:Array Value):Meets (Builtin.«zip.__new__» ⟨[.type "zip",.ref a,.ref b,.ref c],[]⟩) (λ _ R s=>s.heap.IsTuple a xs/\s.heap.IsTuple b ys/\s.heap.IsTuple c ws /\
   R (.ok (.ret (.ref (CN s.heap a b c).objs.size))) { s with heap:=uR s.heap a b c }) :=
 .of_wp λ P w' A' R' s' hh=>by
  obtain⟨hp,g,d,tk,os⟩:=s';obtain⟨ga,gb,gc,hh⟩:=hh;have hsub:=sub_zip;have la:Jp (Jq ⟨hp,g,d,tk,os⟩) a xs:=ga;have lb:Jp (Jq ⟨pP hp a,g,d,tk,os⟩) b ys:=fc gb λ o e=>Hr _ e
  have lc:Jp (Jq ⟨pQ hp a b,g,d,tk,os⟩) c ws:=fc gc λ o e=>Hr _ (Hr _ e)
  wp_walk using Ko la,Ko lb,Ko lc
  exact⟨_,rfl,hh⟩
theorem qY (a b c:Value):checkTypeCall "zip" ⟨[a,b,c],[]⟩=pure ():=by kernel_rfl
theorem tU (a b c:Value):checkBuiltinCall "zip.__new__" ⟨[.type "zip",a,b,c],[]⟩=pure ():=by kernel_rfl
theorem vY (a b c d:Value):argsOk "object.__init__" ⟨[a,b,c,d],[]⟩:=by
 unfold argsOk;rw[signature?_of (id := "object.__init__") (n:=['_','_','t','i','n','i','_','_']) (o:=['t','c','e','j','b','o']) (by kernel_rfl) F.owner_object];kernel_rfl
theorem Dt {a b c:Addr}{xs ys ws:Array Value}{Q:AT}(ga:s.heap.IsTuple a xs)(gb:s.heap.IsTuple b ys)(gc:s.heap.IsTuple c ws)
  (h:∀g,IsZip g (s.heap.objs.size+5) (s.heap.objs.size+3) (s.heap.objs.size+4) .none->d7 g (s.heap.objs.size+3) (.ref s.heap.objs.size) (.ref (s.heap.objs.size+1)) (.ref (s.heap.objs.size+2)) ->
   d7 g (s.heap.objs.size+4) .none .none .none->g.IsTupleIter s.heap.objs.size a 0->g.IsTupleIter (s.heap.objs.size+1) b 0->g.IsTupleIter (s.heap.objs.size+2) c 0 ->
   (∀c o,s.heap.get? c=some o->g.get? c=some o)->Q (.ref (s.heap.objs.size+5)) { s with heap:=g }) :
  wpAny (model prog w) A (call (.type "zip") [.ref a,.ref b,.ref c]) Q E s:=by
 refine callType_new F.called_zip ⋯ (qY _ _ _) (tU _ _ _) (λ obj=>vY obj _ _ _) F.entry_zip_new (EN a b c xs ys ws) ⟨ga,gb,gc,?_⟩;have z1:(pP s.heap a).objs.size=s.heap.objs.size+1:=HJ ..;have z2:(pQ s.heap a b).objs.size=s.heap.objs.size+2:=by rw[HJ,z1]
 have z3:(CL s.heap a b c).objs.size=s.heap.objs.size+3:=by rw[HJ,z2]
 have z4:(CM s.heap a b c).objs.size=s.heap.objs.size+4:=by rw[HJ,z3]
 have z5:(CN s.heap a b c).objs.size=s.heap.objs.size+5:=by rw[HJ,z4]
 have up:∀{h:Heap} {c:Addr} {o o':Obj},h.get? c=some o->(h.push o').get? c=some o:=λ e=>Hr _ e
 have q6:(uR s.heap a b c).get? (CN s.heap a b c).objs.size=some _:=Hs _ rfl;have q5:(uR s.heap a b c).get? (CM s.heap a b c).objs.size=some _:=up (Hs _ rfl);have q4:(uR s.heap a b c).get? (CL s.heap a b c).objs.size=some _:=up (up (Hs _ rfl));have q3:(uR s.heap a b c).get? (pQ s.heap a b).objs.size=some _:=up (up (up (Hs _ rfl)));have q2:(uR s.heap a b c).get? (pP s.heap a).objs.size=some _:=up (up (up (up (Hs _ rfl))));have q1:(uR s.heap a b c).get? s.heap.objs.size=some _:=up (up (up (up (up (Hs _ rfl)))));show _/\_;rw[z3,z4,z5] at q6;rw[z1,z2,z3] at q4;rw[z4] at q5;rw[z2] at q3;rw[z1] at q2;rw[z5];exact⟨⟨_,q6,rfl⟩,h _ q6 q4 q5 ⟨_,q1,rfl,rfl⟩ ⟨_,q2,rfl,rfl⟩ ⟨_,q3,rfl,rfl⟩ λ c o x=>up (up (up (up (up (up x)))))⟩
end
def qZ (K:Hl)(a b c:Addr):It :=
 ⟨λ i H=>∃xs ys ws x y r,au K H a xs/\au K H b ys/\au K H c ws/\xs[i]?=some x/\ys[i]?=some y/\ws[i]?=some r,
  λ i H v H'=>∃t x y r,v=.ref t/\H t=none/\H' = upd H t (.tup [x,y,r])/\∀xs ys ws,au K H a xs->au K H b ys->au K H c ws->xs[i]?=some x/\ys[i]?=some y/\ws[i]?=some r,
  λ i H=>∃xs,au K H a xs/\xs.length<=i⟩
theorem zo {P:Program}{w:World}{K:Hl}{elts:List Expr}{kk:Nat}{pos:Pos}(a b c z p q j k l:Addr)(D:CK z p q j k l a b c) :
  Turn P w K (.Tuple elts kk pos) (qZ K a b c) [z,p,q,j,k,l] z (λ i h=>IsZip h z p q .none/\d7 h p (.ref j) (.ref k) (.ref l)/\(∃u v t,d7 h q u v t)/\h.IsTupleIter j a i/\h.IsTupleIter k b i/\h.IsTupleIter l c i) where
 mem:=by simp
 obj:=λ i h st d hd=>by
  obtain⟨gz,gp,⟨u,v,t,gq⟩,⟨oj,ej,cj,dj⟩,⟨ok,ek,ck,dk⟩,⟨ol,el,cl,dl⟩⟩:=st;simp only[Ho,Ie,or_false] at hd
  rcases hd with rfl | rfl | rfl | rfl | rfl | rfl
  ·exact⟨_,gz,λ v e=>by cases e⟩
  ·exact⟨_,gp,λ v e=>by cases e⟩
  ·exact⟨_,gq,λ v e=>by cases e⟩
  ·exact⟨oj,ej,λ v e=>by rw[dj] at e;cases e⟩
  ·exact⟨ok,ek,λ v e=>by rw[dk] at e;cases e⟩
  ·exact⟨ol,el,λ v e=>by rw[dl] at e;cases e⟩
 keep:=λ i h g st kp=>by
  obtain⟨gz,gp,⟨u,v,t,gq⟩,⟨oj,ej,rj⟩,⟨ok,ek,rk⟩,⟨ol,el,rl⟩⟩:=st;exact⟨kp z (by simp) _ gz,kp p (by simp) _ gp,⟨u,v,t,kp q (by simp) _ gq⟩,⟨oj,kp j (by simp) _ ej,rj⟩,⟨ok,kp k (by simp) _ ek,rk⟩,⟨ol,kp l (by simp) _ el,rl⟩⟩
 item:=by
  intro X hP hw hK hc i pins s Hh H E I hf st hg;subst hP hw hK;obtain⟨gz,gp,⟨u,v,t,gq⟩,gj,gk,gl⟩:=st;obtain⟨xs,ys,ws,x,y,r,ha,hb,hcc,hx,hy,hr⟩:=hg;obtain⟨is,ra,pa,_⟩:=I.tuple ha;obtain⟨js,rb,pb,_⟩:=I.tuple hb;obtain⟨ls,rc,pc,_⟩:=I.tuple hcc;obtain⟨xv,hxv,rx⟩:=ra.get hx;obtain⟨yv,hyv,ry⟩:=rb.get hy;obtain⟨rv,hrv,rr⟩:=rc.get hr;have sz:∀d∈[z,p,q,j,k,l],d≠s.heap.objs.size:=λ d hd e=>by
   subst e;simp only[Ho,Ie,or_false] at hd
   rcases hd with e | e | e | e | e | e
   ·exact absurd (Hq gz) (by rw[<-e];exact HG _)
   ·exact absurd (Hq gp) (by rw[<-e];exact HG _)
   ·exact absurd (Hq gq) (by rw[<-e];exact HG _)
   ·obtain⟨oj,ej,_⟩:=gj;exact absurd (Hq ej) (by rw[<-e];exact HG _)
   ·obtain⟨ok,ek,_⟩:=gk;exact absurd (Hq ek) (by rw[<-e];exact HG _)
   ·obtain⟨ol,el,_⟩:=gl;exact absurd (Hq el) (by rw[<-e];exact HG _)
  have ty:s.TypeIs (.ref z) "zip" := ⟨_,gz,rfl⟩;unfold pyNext;refine J7 (Ki (wpAny_callSpecial?_slot (name:=Str.ofString "__next__") ty F.slot_zip_next (Kc F.slot_zip_next ty F.entry_zip_next
   (Ds D gz gp gq gj gk gl (show s.heap.IsTuple a is.toArray from pa) (show s.heap.IsTuple b js.toArray from pb) (show s.heap.IsTuple c ls.toArray from pc) (x:=xv) (y:=yv) (r:=rv) (by simpa using hxv) (by simpa using hyv) (by simpa using hrv) λ g a1 a2 a3 a4 a5 a6 a7 hk=>J8 ?_) (F.args_zip_next_1 _))))
  refine⟨.ref s.heap.objs.size,rfl,KJ a1 λ g' gz' sb=>?_⟩;have fr:=I.bc.fresh (a:=s.heap.objs.size) (Hn _);have I1:Inv X pins Hh (upd H s.heap.objs.size (.tup [x,y,r])) { s with heap:=s.heap.push { cls:=.type "tuple",data:=.seq #[xv,yv,rv] },toks:=s.toks } :=
   I.laid (λ _ _ e=>Hr _ e) (Hn _) ⟨by show 3<=sizeLine;decide,[xv,yv,rv],.cons rx (.cons ry (.cons rr .nil)),by first | exact IsTup.new _ _ | exact⟨_,Hs _ rfl,rfl,_,rfl,rfl⟩⟩
  have f1:∀d∈[z,p,q,j,k,l],iq X pins (upd H s.heap.objs.size (.tup [x,y,r])) d:=λ d hd=>by
   obtain⟨f0,fr'⟩:=hf d hd;exact⟨by rw[av (sz d hd)];exact f0,fr'⟩
  have I2:Inv X pins Hh (upd H s.heap.objs.size (.tup [x,y,r])) { s with heap:=g',toks:=s.toks }:=Inv.je (s:={ s with heap:=s.heap.push { cls:=.type "tuple",data:=.seq #[xv,yv,rv] },toks:=s.toks }) (fp:=[z,p,q,j,k,l]) (h':=g') (t':=s.toks) I1 (λ d o hd e=>by
   simp only[Ho,Ie,or_false,not_or] at hd;refine sb.extBut _ _ hd.1 ?_
   rcases J2 e with ⟨rfl,rfl⟩ | e
   ·exact a6
   ·exact hk d o hd.1 hd.2.2.1 hd.2.2.2.1 hd.2.2.2.2.1 hd.2.2.2.2.2 e) f1
  refine⟨.ref s.heap.objs.size,_,I2,rfl,⟨_,x,y,r,rfl,fr,rfl,λ xs' ys' ws' h1 h2 h3=>?_⟩,⟨gz',sb.extBut _ _ D.pz (hk _ _ D.pz D.pq D.pj D.pk D.pl gp),⟨xv,yv,rv,sb.extBut _ _ D.qz a2⟩,a3.extBut sb.extBut D.jz,a4.extBut sb.extBut D.kz,a5.extBut sb.extBut D.lz⟩,λ d hd=>(f1 d hd).1⟩;rw[I.gS h1 ha,I.gS h2 hb,I.gS h3 hcc];exact⟨hx,hy,hr⟩
 done:=by
  intro X hP hw hK hc i pins s Hh H E I hf st hg;subst hP hw hK;obtain⟨gz,gp,⟨u,v,t,gq⟩,gj,gk,gl⟩:=st;obtain⟨xs,ha,hl⟩:=hg;obtain⟨is,ra,pa,_⟩:=I.tuple ha;have la:=ra.length;have he:is.toArray[i]?=none:=by simp;omega
  have ty:s.TypeIs (.ref z) "zip" := ⟨_,gz,rfl⟩;unfold pyNext;refine J7 (Ki (wpAny_callSpecial?_slot (name:=Str.ofString "__next__") ty F.slot_zip_next (Kc F.slot_zip_next ty F.entry_zip_next
   (EM (u:=u) (v:=v) (t:=t) (I.ok.hd hc) D gz gp gj (show s.heap.IsTuple a is.toArray from pa) he λ g e hk he=>?_) (F.args_zip_next_1 _))))
  obtain⟨o,eo,ec⟩:=he;exact J7 (Ks (T := "StopIteration") (b:=true) ⟨o,eo,ec⟩ isSubtype_stop (J8 ⟨rfl,I.je (fp:=[z,p,q,j,k,l]) (t':=s.toks) (λ d o hd e=>by
   simp only[Ho,Ie,or_false,not_or] at hd;exact hk d o hd.1 hd.2.2.1 hd.2.2.2.1 hd.2.2.2.2.1 hd.2.2.2.2.2 e) hf⟩))
 self:=λ _ _ _ _ _ st h=>Kt st.1 h
theorem GQ {N a b c:Nat}(ha:a<N)(hb:b<N)(hc:c<N):CK (N+5:Nat) (N+3:Nat) (N+4:Nat) N (N+1:Nat) (N+2:Nat) a b c:=by
 constructor<;>(intro e;have e:(_:Nat)=_:=e;omega)
section
variable {X:Cx}
inductive A5 (K:Hl) (R:(It->Hp->Prop)) (vs:List V) (H1:Hp):Prop
 | mk (a b c:_) (_:vs=[.ref a,.ref b,.ref c]) (_:(∃xs,au K H1 a xs)) (_:(∃ys,au K H1 b ys)) (_:(∃ws,au K H1 c ws)) (_:R (qZ K a b c) H1)
def FC (K:Hl)(ta:TA):TI:=λ Hh H R=>ta Hh H λ vs H1=>A5 K R vs H1
theorem Du {a b c:Expr} {ta:TA} {p pos tp:Pos} {elts:List Expr} {kk:Nat} (hg:Gl X "zip") (hm:X.mg "zip" = none) (ha:PA X [a,b,c] ta) (hs:starEach [a,b,c] X.env=[(false,eval a X.env),(false,eval b X.env),(false,eval c X.env)]:=by rfl) (hs2:starEach [b,c] X.env=[(false,eval b X.env),(false,eval c X.env)]:=by rfl) :
  PI X (.Tuple elts kk tp) (.Call (.Name "zip" p) [a,b,c] [] pos) (FC X.K ta):=by
 intro pins s Hh H R I h;refine Call_ (iM I hg hm uO (PyProof.Rows.callWith_type1 (bx (ha pos pins s Hh H _ I h) λ us s1 ⟨vs,H1,I1,r1,q1⟩=>?_) (by rw[hs,hs2]) (by rw[hs2];rfl)));obtain⟨x,y,r,e,⟨xs,hx⟩,⟨ys,hy⟩,⟨ws,hw⟩,q⟩:=q1;subst e;cases r1 with
 | cons r1 rr =>
  cases rr with
  | cons r2 rr =>
   cases rr with
   | cons r3 rr =>
   cases rr;cases r1;cases r2;cases r3;obtain⟨is,rx,px,_⟩:=I1.tuple hx;obtain⟨js,ry,py,_⟩:=I1.tuple hy;obtain⟨ls,rw',pw,_⟩:=I1.tuple hw;have lx:x<s1.heap.objs.size:=px.lt;have ly:y<s1.heap.objs.size:=py.lt;have lw:r<s1.heap.objs.size:=pw.lt;refine Dt (show s1.heap.IsTuple x is.toArray from px) (show s1.heap.IsTuple y js.toArray from py) (show s1.heap.IsTuple r ls.toArray from pw) λ g gz gp gq gj gk gl up=>?_
   refine Kt gz ?_;have I2:Inv X pins Hh H1 { s1 with heap:=g }:=I1.kept (t':=s1.toks) up;refine⟨_,[s1.heap.objs.size+5,s1.heap.objs.size+3,s1.heap.objs.size+4,s1.heap.objs.size,s1.heap.objs.size+1,s1.heap.objs.size+2],_,qZ X.K x y r,H1,rfl,I2,zo x y r _ _ _ _ _ _ (GQ lx ly lw),⟨gz,gp,⟨_,_,_,gq⟩,gj,gk,gl⟩,λ c hc=>?_,q⟩;have le:s1.heap.objs.size<=c:=by
    simp only[Ho,Ie,or_false] at hc
    rcases hc with rfl | rfl | rfl | rfl | rfl | rfl
    ·exact Ii _ _
    ·exact Ii _ _
    ·exact Ii _ _
    ·exact Hn _
    ·exact Ii _ _
    ·exact Ii _ _
   exact I1.kT le (I1.bc.fresh le)
end
theorem Ba {K:Hl}{a b c:Addr}{xs ys ws:List V}{g:TG}{tb:TS}{D:Ends}{Hh : St}{H:Hp}(h1:xs.length<=ys.length)(h2:xs.length<=ws.length)(Pv:Nat->St->Hp->Prop)(h0:Pv 0 Hh H)(hl:∀i Hh H,i<=xs.length->Pv i Hh H->au K H a xs/\au K H b ys/\au K H c ws)
  (hs:∀i x y r Hh H t,xs[i]?=some x->ys[i]?=some y->ws[i]?=some r->H t=none->Pv i Hh H->g (.ref t) Hh (upd H t (.tup [x,y,r])) λ σ2 H2=>tb { D with nx:=Pv (i+1),ct:=Pv (i+1),bk:=D.nx } σ2 H2) (hd:∀Hh H,Pv xs.length Hh H->D.nx Hh H) :
  ∃W:Nat->Nat->St->Hp->Prop,(∃m,W 0 m Hh H)/\∀i m Hh H,W i m Hh H ->
   ((qZ K a b c).stop i H/\D.nx Hh H)\/((qZ K a b c).go i H/\∃N:St->Hp->Prop,(∀σ' H',N σ' H'->∃m',m' < m/\W (i+1) m' σ' H')/\∀x H',(qZ K a b c).sf i H x H'->g x Hh H' λ σ2 H2=>tb { D with nx:=N,ct:=N,bk:=D.nx } σ2 H2):=by
 exists λ i m Hh H=>m=xs.length-i/\i<=xs.length/\Pv i Hh H,⟨xs.length,by simp,HL _,h0⟩;rintro i m Hh H ⟨rfl,hi,p⟩;obtain⟨qa,qb,qc⟩:=hl i Hh H hi p;by_cases hlt:i<xs.length
 ·refine .inr ⟨⟨xs,ys,ws,xs[i],ys[i]'⋯,ws[i]'⋯,qa,qb,qc,by simp[hlt],by simp[show i<ys.length by omega],by simp[show i<ws.length by omega]⟩,Pv (i+1),λ σ' H' p'=>⟨xs.length-(i+1),by omega,rfl,hlt,p'⟩,λ v H' y=>?_⟩;obtain⟨t,x,y,r,rfl,ht,rfl,h⟩:=y;obtain⟨e1,e2,e3⟩:=h xs ys ws qa qb qc;exact hs i x y r Hh H t e1 e2 e3 ht p
 ·have e:i=xs.length:=by omega
  subst e;exact .inl ⟨⟨xs,qa,Hn _⟩,hd Hh H p⟩
mutual
inductive bg (H:Hp):V->PyData->Prop
 | aZ:bg H .aZ .none
 | bl (b:Bool):bg H (.bl b) (.bool b)
 | int (i:Int):bg H (.int i) (.int i)
 | str (x:Str):bg H (.str x) (.str x)
 | lst {p:Addr} {xs:List V} {ds:List PyData}:H p=some (.lst xs)->bp H xs ds->bg H (.ref p) (.list ds)
 | tup {p:Addr} {xs:List V} {ds:List PyData}:H p=some (.tup xs)->bp H xs ds->bg H (.ref p) (.tuple ds)
inductive bp (H:Hp):List V->List PyData->Prop
 | nil:bp H [] []
 | cons {x:V} {xs:List V} {d:PyData} {ds:List PyData}:bg H x d->bp H xs ds->bp H (x::xs) (d::ds)
end
section
variable {P:Program}{w:World}{H:Hp}{h:Heap}
mutual
theorem bg.reads (ok:eS P w H h):∀{x:V} {d:PyData} {v:Value},bg H x d->RelV x v->∃as,Reads h v d as
 | _,_,v,.aZ,r=>by
  cases (show v=Value.none from r);exact⟨_,.none⟩
 | _,_,v,.bl b,r=>by
  cases (show v=Value.bool b from r);exact⟨_,.bool b⟩
 | _,_,v,.int i,r=>by
  obtain⟨t,e⟩:=(show ∃t,v=Value.int i t from r);cases e;exact⟨_,.int i t⟩
 | _,_,v,.str x,r=>by
  obtain⟨t,e⟩:=(show ∃t,v=Value.str x t from r);cases e;exact⟨_,.str x t⟩
 | _,_,v,.lst (p:=p) (xs:=xs) e ds,r=>by
  cases (show v=Value.ref p from r);obtain⟨_,its,n,rv,h1⟩:=(show b0 P w H h p (.lst xs) from ok p _ e);obtain⟨as,ra⟩:=bp.reads ok ds rv;exact⟨_,.list (vs:=its.toArray) h1 rfl rfl (by simpa using ra)⟩
 | _,_,v,.tup (p:=p) (xs:=xs) e ds,r=>by
  cases (show v=Value.ref p from r);obtain⟨_,its,rv,o,h1,h2,n,h3⟩:=(show b0 P w H h p (.tup xs) from ok p _ e);obtain⟨as,ra⟩:=bp.reads ok ds rv;exact⟨_,.tuple (vs:=its.toArray) h1 h2 h3.1 (by simpa using ra)⟩
theorem bp.reads (ok:eS P w H h):∀{xs:List V} {ds:List PyData} {vs:List Value},bp H xs ds->Vals xs vs->∃as,ReadsAll h vs ds as
 | _,_,_,.nil,.nil=>⟨_,.nil⟩
 | _,_,_,.cons r rs,.cons q qs=>by
  obtain⟨as,ra⟩:=bg.reads ok r q;obtain⟨bs,rb⟩:=bp.reads ok rs qs;exact⟨_,.cons ra rb⟩
end
end
section
variable {X:Cx}
inductive EO (neg:Bool) (x:V) (y:V) (H:Hp) (Q:VK):Prop
 | mk (dx dy:_) (_:bg H x dx) (_:bg H y dy) (_:dx.canLay0=true) (_:dy.canLay0=true) (_:min dx.depth dy.depth<=60) (_:Q (.bl (if neg then !PyData.eqv dx dy else PyData.eqv dx dy)) H)
theorem zp (hu:X.A.units+64<cLine):eJ X (compareOp .Eq) (EO false):=by
 intro pins s Hh H x y v u Q I rx ry h;obtain⟨dx,dy,r1,r2,c1,c2,hd,q⟩:=h;obtain⟨as,ra⟩:=r1.reads I.bc rx;obtain⟨bs,rb⟩:=r2.reads I.bc ry;exact PySem.SeqAt.compareEq_reads ra rb c1 c2 ⋯ ⟨.bl _,H,I,rfl,q⟩
theorem pR (hu:X.A.units+64<cLine):eJ X (compareOp .NotEq) (EO true):=by
 intro pins s Hh H x y v u Q I rx ry h;obtain⟨dx,dy,r1,r2,c1,c2,hd,q⟩:=h;obtain⟨as,ra⟩:=r1.reads I.bc rx;obtain⟨bs,rb⟩:=r2.reads I.bc ry;exact PySem.SeqAt.neOverData X.prog X.w X.A X.xe s v u dx dy as bs _ ra rb c1 c2 ⋯ ⟨.bl _,H,I,rfl,q⟩
end
def one (c:Nat):Str:=⟨#[c]⟩
theorem uS (rest:List Str):∀a:Array Nat,(rest.foldl (λ acc p=>acc++Str.empty.cps++p.cps) a).toList=a.toList++rest.flatMap (·.cps.toList):=by
 induction rest with
 | nil=>intro a;simp
 | cons x r ih =>
  intro a;rw[I0,ih];have e:Str.empty.cps = #[]:=rfl;simp[e]
theorem join_ones (cs:List Nat):(Txt.join Str.empty (cs.map one)).cps.toList=cs:=by
 cases cs with
 | nil=>rfl
 | cons c r =>
  show (List.foldl (λ acc p=>acc++Str.empty.cps++p.cps) (#[c]:Array Nat) (r.map one)).toList=c::r;rw[uS];simp only[List.flatMap_map,one];simp
theorem Bb:Str.ofString "" = Str.empty:=by decide
theorem yd {ys:List Str}:∀{us:List Value},Vals (ys.map V.str) us->StrsAre us ys:=by
 induction ys with
 | nil=>intro us r;cases r;exact .nil
 | cons y ys ih =>
  intro us r;cases r with
  | cons h t =>
   obtain⟨k,e⟩:=h;subst e;exact .cons y k (ih t)
section
variable {X:Cx}
inductive rJoin (K:Hl) (x:V) (vs:List V) (H:Hp) (Q:VK):Prop
 | mk (z:Str) (p:Addr) (ys:List Str) (_:x=.str z) (_:vs=[.ref p]) (_:aT K H p (ys.map V.str)) (_:(ys.map (·.length)).sum+ys.length*z.length<=16777216) (_:Q (.str (Txt.join z ys)) H)
theorem w4:Ex X "str.join" (rJoin X.K):=by
 intro pins s Hh H x vs v us Q I rx rv h;obtain⟨z,p,ys,rfl,rfl,hS,hz,q⟩:=h;obtain⟨t,e⟩:=(show ∃t,v=Value.str z t from rx);subst e;obtain⟨u,rfl,ru⟩:=vals1 rv;cases (show u=Value.ref p from ru);obtain⟨its,rv',pl,_⟩:=I.list hS;exact join_list pl.isList (by simpa using yd rv') hz λ t' k=>⟨.str _,H,I.tok k,⟨_,rfl⟩,q⟩
end
inductive cH where
 | put (x:Str) (n:Int)
 | copy (x y:Str)
 | add (x:Str) (n:Int)
 | read (x:Str)
 | tell (x:Str)
inductive End where
 | stop
 | go (p:Nat)
 | aR (less:Bool) (x:Str) (n:Int) (p q:Nat)
abbrev Piece:=List cH×End
def wT (b:Bool):Str:=if b=true then "less" else "is"
def bI:cH->PyData
 | .put x n=>.tuple [.str "put",.str x,.int n]
 | .copy x y=>.tuple [.str "copy",.str x,.str y]
 | .add x n=>.tuple [.str "add",.str x,.int n]
 | .read x=>.tuple [.str "read",.str x]
 | .tell x=>.tuple [.str "tell",.str x]
def e6:End->PyData
 | .stop=>.tuple [.str "stop"]
 | .go p=>.tuple [.str "go",.int p]
 | .aR b x n p q=>.tuple [.str (wT b),.str x,.int n,.int p,.int q]
def eN (p:Piece):PyData:=.tuple [.tuple (p.1.map bI),e6 p.2]
def eF (ps:List Piece):PyData:=.tuple (ps.map eN)
structure dM (x:Str):Prop where
 lo:1<=x.length
 hi:x.length<=8
 az:∀c∈x.cps.toList,97<=c/\c<=122
def kX (n:Int):Prop:=-(10 ^ 40)<n/\n<10 ^ 40
def fz (xs:List Str):cH->Prop
 | .put x n=>x∈xs/\kX n
 | .copy x y=>x∈xs/\y∈xs
 | .add x n=>x∈xs/\kX n
 | .read x=>x∈xs
 | .tell x=>x∈xs
def jU (xs:List Str)(count:Nat):End->Prop
 | .stop=>True
 | .go p=>p<count
 | .aR _ x n p q=>x∈xs/\kX n/\p<count/\q<count
structure cI (xs:List Str) (most:Nat) (ps:List Piece):Prop where
 eX:∀p∈ps,p.1.length<=most/\∀d∈p.1,fz xs d
 ends:∀p∈ps,jU xs ps.length p.2
mutual
def cP:PyData->Bool
 | .list _=>false
 | .tuple xs=>cT xs
 | _=>true
def cT:List PyData->Bool
 | []=>true
 | x::xs=>cP x&&cT xs
end
mutual
theorem bg.aM {H H':Hp}(k:∀p xs,H p=some (.tup xs)->H' p=some (.tup xs)):∀{x:V} {d:PyData},bg H x d->cP d=true->bg H' x d
 | _,_,.aZ,_=>.aZ
 | _,_,.bl b,_=>.bl b
 | _,_,.int i,_=>.int i
 | _,_,.str x,_=>.str x
 | _,_,.lst _ _,h=>nomatch h
 | _,_,.tup e ds,h=>.tup (k _ _ e) (bp.aM k ds h)
theorem bp.aM {H H':Hp}(k:∀p xs,H p=some (.tup xs)->H' p=some (.tup xs)):∀{xs:List V} {ds:List PyData},bp H xs ds->cT ds=true->bp H' xs ds
 | _,_,.nil,_=>.nil
 | _,_,.cons r rs,h=>by
  simp only[cT,HU] at h;exact .cons (bg.aM k r h.1) (bp.aM k rs h.2)
end
theorem bg.fix {b:Addr}{H H':Hp}{x:V}{d:PyData}(r:bg H x d)(hb:cy H b)(f:Fix b H H')(n:cP d=true):bg H' x d :=
 r.aM (λ p xs e=>f p _ e (hb.bK e)) n
theorem bg.same {H H':Hp}{x:V}{d:PyData}(r:bg H x d)(f:ah H H')(n:cP d=true):bg H' x d :=
 r.aM (λ p xs e=>f p _ e) n
theorem bp.fix {b:Addr}{H H':Hp}{xs:List V}{ds:List PyData}(r:bp H xs ds)(hb:cy H b)(f:Fix b H H')(n:cT ds=true):bp H' xs ds :=
 r.aM (λ p xs e=>f p _ e (hb.bK e)) n
theorem bp.same {H H':Hp}{xs:List V}{ds:List PyData}(r:bp H xs ds)(f:ah H H')(n:cT ds=true):bp H' xs ds :=
 r.aM (λ p xs e=>f p _ e) n
theorem bp.put {H:Hp}{xs ys:List V}{ds:List PyData}{l:Addr}{o:HO}(r:bp H xs ds)(hl:H l=some (.lst ys))(n:cT ds=true):bp (upd H l o) xs ds :=
 r.aM (λ p zs e=>by rw[av (bP e hl (by intro z;cases z))];exact e) n
theorem bp.app {H:Hp}{x:V}{d:PyData}:∀{xs:List V} {ds:List PyData},bp H xs ds->bg H x d->bp H (xs++[x]) (ds++[d])
 | _,_,.nil,q=>.cons q .nil
 | _,_,.cons r rs,q=>.cons r (bp.app rs q)
theorem bp.len {H:Hp}:∀{xs:List V} {ds:List PyData},bp H xs ds->xs.length=ds.length
 | _,_,.nil=>rfl
 | _,_,.cons _ rs=>by simp[bp.len rs]
theorem oi (d:cH):cP (bI d)=true:=by cases d<;>rfl
theorem kY (e:End):cP (e6 e)=true:=by cases e<;>rfl
theorem bE:∀ds:List cH,cT (ds.map bI)=true
 | []=>rfl
 | d::ds=>by show (cP (bI d)&&cT (ds.map bI))=true;rw[oi,bE ds];rfl
theorem jy (p:Piece):cP (eN p)=true:=by
 show (cT (p.1.map bI)&&(cP (e6 p.2)&&true))=true;rw[bE,kY];rfl
theorem cJ:∀ps:List Piece,cT (ps.map eN)=true
 | []=>rfl
 | p::ps=>by show (cP (eN p)&&cT (ps.map eN))=true;rw[jy,cJ ps];rfl
theorem bW (ps:List Piece):cP (eF ps)=true:=cJ ps
structure gn (H:Hp) (b l:Addr) (xs:List Str):Prop where
 at_:H l=some (.lst (xs.map V.str))
 ne:l≠b
 ye:xs≠[]
 bV:xs.length<=1000
 ok:∀x∈xs,dM x
theorem gn.fix {H H':Hp}{b l:Addr}{xs:List Str}(h:gn H b l xs)(f:Fix b H H'):gn H' b l xs:=⟨f l _ h.at_ h.ne,h.ne,h.ye,h.bV,h.ok⟩
theorem gn.pos {H:Hp}{b l:Addr}{xs:List Str}(h:gn H b l xs):0<((xs.map V.str).length:Int)/\((xs.map V.str).length:Int)<1073741824:=by
 have h1:=h.ye;have h2:=h.bV;have h3:0<xs.length:=by cases xs with | nil=>exact absurd rfl h1 | cons _ _=>simp
 rw[Hk];omega
inductive w5  (vs:List V) (H:Hp) (Q:VK) (_:XK):Prop
 | mk (b:Addr) (_:vs=[.ref b]) (_:cy H b) (_:∀l xs H',gn H' b l xs->xs.length<=4->cy H' b->Fix b H H'->Q (.ref l) H')
inductive oY  (vs:List V) (H:Hp) (Q:VK) (_:XK):Prop
 | mk (b:Addr) (_:vs=[.ref b]) (_:cy H b) (_:∀n H',kX n->cy H' b->Fix b H H'->Q (.int n) H')
inductive zq  (vs:List V) (H:Hp) (Q:VK) (_:XK):Prop
 | mk (b l:Addr) (xs:List Str) (_:vs=[.ref b,.ref l]) (_:cy H b) (_:gn H b l xs) (_:∀v d H',bg H' v (bI d)->fz xs d->cy H' b->Fix b H H'->Q v H')
inductive zr  (vs:List V) (H:Hp) (Q:VK) (_:XK):Prop
 | mk (b l:Addr) (xs:List Str) (c:Nat) (_:vs=[.ref b,.ref l,.int c]) (_:cy H b) (_:gn H b l xs) (_:0<c) (_:c<1073741824) (_:∀v e H',bg H' v (e6 e)->jU xs c e->cy H' b->Fix b H H'->Q v H')
inductive zt  (vs:List V) (H:Hp) (Q:VK) (_:XK):Prop
 | mk (b:Addr) (c m:Nat) (_:vs=[.ref b,.int c,.int m]) (_:cy H b) (_:0<c) (_:c<=1000) (_:m<=1000) (_:∀v xs ps H',bg H' v (eF ps)->ps.length=c->cI xs m ps->((∀x∈xs,dM x)/\xs.length<=4)->cy H' b->Fix b H H'->Q v H')
inductive w6  (vs:List V) (H:Hp) (Q:VK) (_:XK):Prop
 | mk (b:Addr) (m:Nat) (_:vs=[.ref b,.int m]) (_:cy H b) (_:0<m) (_:m<=1000) (_:∀(n:Nat) H',0<n->n<=max m 4->cy H' b->Fix b H H'->Q (.int n) H')
def pS:Str := "abcdefghijklmnopqrstuvwxyz"
theorem uT:pS.cps.toList=(HY 26).map (· + 97):=by decide
theorem w9:pS.length<=sizeLine:=by decide
theorem zu {r:Int}(h0:0<=r)(h1:r<26):∃c,eY pS.cps.toList r=some c/\97<=c/\c<=122:=by
 have hl:pS.cps.toList.length=26:=by rw[uT];simp
 obtain⟨c,hc,hm⟩:=yc (xs:=pS.cps.toList) h0 (by rw[hl];exact h1);exists c,hc;rw[uT] at hm;obtain⟨k,hk,rfl⟩:=HE.mp hm;have:=IQ.mp hk;omega
theorem kZ {xs:List Str}{r:Int}(h0:0<=r)(h1:r<((xs.map V.str).length:Int)):∃x,eY (xs.map V.str) r=some (V.str x)/\x∈xs:=by
 obtain⟨v,hv,hm⟩:=yc h0 h1;obtain⟨x,hx,rfl⟩:=HE.mp hm;exact⟨x,hv,hx⟩
theorem gy {Hh : L2.St}{H:Hp}{Q:Bool->Hp->Prop}(h:Q true H):EJ Hh H Q:=h
theorem cb {i:Nat}{v:V}{Hh : L2.St}{H:Hp}{Q:L2.St->Hp->Prop}(h:Q (Hh.set i (some v)) H):um i v Hh H Q:=h
section
variable {κ : Type}[DecidableEq κ]
def cw (kvs:List (κ×V))(k:κ):Option V:=(kvs.find? λ kv=>decide (kv.1=k)).map (·.2)
def putK (kvs:List (κ×V))(k:κ)(v:V):List (κ×V) :=
 if (kvs.any λ kv=>decide (kv.1=k))=true then kvs.map (λ kv=>if kv.1=k then (kv.1,v) else kv) else kvs++[(k,v)]
def fk (kvs:List (κ×V))(k:κ):List (κ×V):=kvs.filter λ kv=>decide (kv.1≠k)
theorem dC {p:κ×V}{r:List (κ×V)}{k:κ}(e:p.1=k):cw (p::r) k=some p.2:=by simp[cw,Ja,e]
theorem dm {p:κ×V}{r:List (κ×V)}{k:κ}(e:¬p.1=k):cw (p::r) k=cw r k:=by simp[cw,Ja,e]
theorem iw (k:κ):∀kvs:List (κ×V),(kvs.any λ kv=>decide (kv.1=k))=(cw kvs k).isSome
 | []=>rfl
 | p::r=>by
  rw[Jl];by_cases e:p.1=k
  ·simp only[dC e,decide_eq_true e,Bool.true_or,Option.isSome_some]
  ·rw[dm e,decide_eq_false e,Bool.false_or];exact iw k r
theorem uU (k j:κ)(y:V):∀kvs:List (κ×V),cw (kvs.map λ kv=>if kv.1=k then (kv.1,y) else kv) j=(cw kvs j).map λ x=>if j=k then y else x
 | []=>rfl
 | p::r=>by
  have ih:=uU k j y r;rw[HN];by_cases h:p.1=k
  ·rw[if_pos h];by_cases e:p.1=j
   ·rw[dC (p:=(p.1,y)) e,dC e,JI,if_pos (e.symm.trans h)]
   ·rw[dm (p:=(p.1,y)) e,dm e,ih]
  ·rw[if_neg h];by_cases e:p.1=j
   ·rw[dC (p:=p) e,dC e,JI,if_neg (λ z=>h (e.trans z))]
   ·rw[dm (p:=p) e,dm e,ih]
theorem sI (k j:κ)(y:V):∀kvs:List (κ×V),cw kvs k=none->cw (kvs++[(k,y)]) j=if j=k then some y else cw kvs j
 | [],_=>by
  by_cases e:k=j
  ·rw[if_pos e.symm];exact dC (p:=(k,y)) e
  ·rw[if_neg (λ z=>e z.symm)];exact dm (p:=(k,y)) e
 | p::r,hn=>by
  rw[List.cons_append];have hk:¬p.1=k:=λ z=>by rw[dC z] at hn;cases hn
  rw[dm hk] at hn;have ih:=sI k j y r hn;by_cases e:p.1=j
  ·rw[dC e,dC e,if_neg (λ z=>hk (e.trans z))]
  ·rw[dm e,dm e,ih]
theorem Bc (kvs:List (κ×V))(k j:κ)(y:V):cw (putK kvs k y) j=if j=k then some y else cw kvs j:=by
 unfold putK;by_cases a:(kvs.any λ kv=>decide (kv.1=k))=true
 ·rw[if_pos a,uU];rw[iw] at a;by_cases e:j=k
  ·obtain⟨x,hx⟩:=Option.isSome_iff_exists.mp a;rw[if_pos e,e,hx,JI,if_pos rfl]
  ·rw[if_neg e];cases cw kvs j with
   | none=>rfl
   | some x=>rw[JI,if_neg e]
 ·rw[if_neg a];refine sI k j y kvs ?_;rw[iw] at a;cases q:cw kvs k with
  | none=>rfl
  | some x=>rw[q] at a;exact (a rfl).elim
theorem om (kvs:List (κ×V))(k:κ)(v:V):(putK kvs k v).length<=kvs.length+1:=by
 unfold putK;split
 ·rw[Hk];omega
 ·rw[Ht,HX,JJ];omega
theorem Bd {kvs:List (κ×V)}{k:κ}(v:V)(h:cw kvs k=none):putK kvs k v=kvs++[(k,v)]:=by
 unfold putK;rw[iw,h];exact if_neg ⋯
theorem fq.zv {o:Option V}{u:Option Value}(r:fq o u):o.isSome=u.isSome:=by
 cases o with
 | none=>cases u with
  | none=>rfl
  | some _=>exact (show False from r).elim
 | some _=>cases u with
  | none=>exact (show False from r).elim
  | some _=>rfl
theorem fq.getD {o:Option V}{u:Option Value}{d:V}{d':Value}(r:fq o u)(rd:RelV d d'):RelV (o.getD d) (u.getD d'):=by
 cases o with
 | none=>cases u with
  | none=>exact rd
  | some _=>exact (show False from r).elim
 | some _=>cases u with
  | none=>exact (show False from r).elim
  | some _=>exact r
theorem KV.val {kvs:List (κ×V)}{vs:List (κ×Value)}(r:KV kvs vs)(k:κ):fq (cw kvs k) (valueAt vs k):=by
 unfold KV at r
 induction r with
 | nil=>exact True.intro
 | @cons p q ps qs h t ih =>
  obtain⟨h1,h2⟩:=h;by_cases e:p.1=k
  ·have e':q.1=k:=h1.symm.trans e;have b:valueAt (q::qs) k=some q.2:=by simp[valueAt,Ja,e']
   rw[dC e,b];exact h2
  ·have e':¬q.1=k:=λ z=>e (h1.trans z)
   have b:valueAt (q::qs) k=valueAt qs k:=by simp[valueAt,Ja,e']
   rw[dm e,b];exact ih
theorem KV.any {kvs:List (κ×V)}{vs:List (κ×Value)}(r:KV kvs vs)(k:κ):(kvs.any λ kv=>decide (kv.1=k))=vs.any λ kv=>decide (kv.1=k):=by
 unfold KV at r
 induction r with
 | nil=>rfl
 | cons h t ih=>rw[Jl,Jl,ih,h.1]
theorem KV.Be {kvs:List (κ×V)}{vs:List (κ×Value)}(r:KV kvs vs)(k:κ){y:V}{u:Value}(ry:RelV y u) :
  KV (kvs.map λ kv=>if kv.1=k then (kv.1,y) else kv) (vs.map λ kv=>if kv.1=k then (kv.1,u) else kv):=by
 unfold KV at r ⊢
 induction r with
 | nil=>exact .nil
 | @cons p q ps qs h t ih =>
  rw[HN,HN];refine .cons ?_ ih;obtain⟨h1,h2⟩:=h;by_cases e:p.1=k
  ·rw[if_pos e,if_pos (h1.symm.trans e)];exact⟨h1,ry⟩
  ·rw[if_neg e,if_neg (λ z=>e (h1.trans z))];exact⟨h1,h2⟩
theorem KV.put {kvs:List (κ×V)}{vs:List (κ×Value)}(r:KV kvs vs)(k:κ){y:V}{u:Value}(ry:RelV y u):KV (putK kvs k y) (stored vs k u):=by
 unfold putK stored;rw[r.any k];by_cases e:(vs.any λ kv=>decide (kv.1=k))=true
 ·rw[if_pos e,if_pos e];exact r.Be k ry
 ·rw[if_neg e,if_neg e];exact Paired.snoc r ⟨rfl,ry⟩
theorem KV.drop {kvs:List (κ×V)}{vs:List (κ×Value)}(r:KV kvs vs)(k:κ):KV (fk kvs k) (without vs k):=by
 unfold KV at r ⊢;unfold fk without
 induction r with
 | nil=>exact .nil
 | @cons p q ps qs h t ih =>
  obtain⟨h1,h2⟩:=h;rw[JK,JK];by_cases e:p.1=k
  ·have a:¬decide (p.1≠k)=true:=by simp[e]
   have b:¬decide (q.1≠k)=true:=by simp[h1.symm.trans e]
   rw[if_neg a,if_neg b];exact ih
  ·have e':¬q.1=k:=λ z=>e (h1.trans z)
   have a:decide (p.1≠k)=true:=by simp[e]
   have b:decide (q.1≠k)=true:=by simp[e']
   rw[if_pos a,if_pos b];exact .cons ⟨h1,h2⟩ ih
theorem KV.keys {kvs:List (κ×V)}{vs:List (κ×Value)}(r:KV kvs vs):kvs.map (·.1)=vs.map (·.1):=by
 unfold KV at r
 induction r with
 | nil=>rfl
 | cons h t ih=>rw[HN,HN,ih,h.1]
theorem KV.length {kvs:List (κ×V)}{vs:List (κ×Value)}(r:KV kvs vs):kvs.length=vs.length:=Paired.length r
theorem Bf (kvs:List (κ×V))(k:κ):(fk kvs k).length<=kvs.length:=II _ _
end
theorem lg {P:Program}{w:World}{k:Key}{u:Value}(r:RelV (kV k) u):(ba P w).is k u=true:=by
 cases k with
 | inl i=>obtain⟨t,e⟩:=(show ∃t,u=Value.int i t from r);subst e;exact nZ P w i t
 | inr x=>obtain⟨t,e⟩:=(show ∃t,u=Value.str x t from r);subst e;exact n5 P w x t
theorem sJ {P:Program}{w:World}:∀{ks:List Key} {us:List Value},Vals (ks.map kV) us->ItemsAre (ba P w) ks us
 | [],_,r=>by rw[List.map_nil] at r;cases r;exact .nil
 | k::ks,_,r=>by
  rw[HN] at r;cases r with
  | cons h t=>exact .cons (lg h) (sJ t)
abbrev KT (H:Hp):List (List Key×V)->List (List Key×Addr×Value)->Prop:=Paired λ p q=>p.1=q.1/\H q.2.1=some (.tup (p.1.map kV))/\RelV p.2 q.2.2
theorem KT.val {H:Hp}{kvs:List (List Key×V)}{xs:List (List Key×Addr×Value)}(r:KT H kvs xs)(k:List Key):fq (cw kvs k) ((atKey xs k).map (·.2)):=by
 induction r with
 | nil=>exact True.intro
 | @cons p q ps qs h t ih =>
  obtain⟨h1,_,h2⟩:=h;by_cases e:p.1=k
  ·have e':q.1=k:=h1.symm.trans e;have b:atKey (q::qs) k=some q.2:=by simp[atKey,Ja,e']
   rw[dC e,b];exact h2
  ·have e':¬q.1=k:=λ z=>e (h1.trans z)
   have b:atKey (q::qs) k=atKey qs k:=by simp[atKey,Ja,e']
   rw[dm e,b];exact ih
theorem KT.Be {H:Hp}{kvs:List (List Key×V)}{xs:List (List Key×Addr×Value)}(r:KT H kvs xs)(k:List Key){y:V}{u:Value}(ry:RelV y u) :
  KT H (kvs.map λ kv=>if kv.1=k then (kv.1,y) else kv) (xs.map (putAt k u)):=by
 induction r with
 | nil=>exact .nil
 | @cons p q ps qs h t ih =>
  rw[HN,HN];refine .cons ?_ ih;obtain⟨h1,h2,h3⟩:=h;unfold putAt;by_cases e:p.1=k
  ·rw[if_pos e,if_pos (h1.symm.trans e)];exact⟨h1,h2,ry⟩
  ·rw[if_neg e,if_neg (λ z=>e (h1.trans z))];exact⟨h1,h2,h3⟩
theorem KT.put {H:Hp}{kvs:List (List Key×V)}{xs:List (List Key×Addr×Value)}(r:KT H kvs xs)(k:List Key){b:Addr}{y:V}{u:Value}(hb:H b=some (.tup (k.map kV)))(ry:RelV y u) :
  KT H (putK kvs k y) (storedH xs k b u):=by
 have e:(kvs.any λ kv=>decide (kv.1=k))=(atKey xs k).isSome:=by
  rw[iw,(r.val k).zv,Option.isSome_map]
 unfold putK storedH;rw[e];by_cases q:(atKey xs k).isSome=true
 ·rw[if_pos q,if_pos q];exact r.Be k ry
 ·rw[if_neg q,if_neg q];exact Paired.snoc r ⟨rfl,hb,ry⟩
theorem KT.keeps {H H':Hp}{kvs:List (List Key×V)}{xs:List (List Key×Addr×Value)}(r:KT H kvs xs)(ht:∀b ys,H b=some (.tup ys)->H' b=some (.tup ys)):KT H' kvs xs :=
 Paired.Au r λ _ _ z=>⟨z.1,ht _ _ z.2.1,z.2.2⟩
section
variable {P:Program}{w:World}{H:Hp}{h:Heap}{a:Addr}
theorem CO {u:HO}(ok:eS P w H h)(e:Rd H a u):b0 P w H h a u:=e.ok ok
theorem nI {kvs:List (Key×V)}(ok:eS P w H h)(e:Rd H a (.dK kvs)):kvs.length<=sizeLine/\(a == sysModules)=false/\∃vs,KV kvs vs/\h.DictOf (ba P w) a vs :=
 show b0 P w H h a (.dK kvs) from CO ok e
theorem pT {kvs:List (Key×V)}(ok:eS P w H h)(e:H a=some (.dK kvs)):kvs.length<=sizeLine/\(a == sysModules)=false/\∃vs,KV kvs vs/\h.DictOf (ba P w) a vs:=nI ok (.inl e)
theorem pU {ks:List Key}(ok:eS P w H h)(e:H a=some (.tup (ks.map kV))):(tupleKind (ba P w)).is h ks a:=by
 obtain⟨_,its,r,o,h1,h2,n,h3⟩:=(show b0 P w H h a (.tup (ks.map kV)) from ok a _ e);exact⟨o,its.toArray,n,h1,h2,h3.1,by simpa using sJ r⟩
theorem pV {kvs:List (List Key×V)}(ok:eS P w H h)(e:Rd H a (.dT kvs)):kvs.length<=sizeLine/\(a == sysModules)=false /\
  ∃xs,KT H kvs xs/\h.DictOfH (tupleKind (ba P w)) a xs:=by
 obtain⟨z,y,xs,r,o,es,ep,h1,h2,h3,h4,h5⟩:=(show b0 P w H h a (.dT kvs) from CO ok e);refine⟨z,y,xs,r,o,es,ep,h1,h2,h3,h4,λ x hx=>?_,h5⟩;have all:∀{l:List (List Key×V)} {m:List (List Key×Addr×Value)},KT H l m->∀x∈m,(tupleKind (ba P w)).is h x.1 x.2.1:=by
  intro l m q
  induction q with
  | nil=>intro x hx;exact nomatch hx
  | @cons p q ps qs hq t ih =>
   intro x hx
   rcases Ho.mp hx with e | hx
   ·subst e;exact pU ok (by rw[<-hq.1];exact hq.2.1)
   ·exact ih x hx
 exact all r x hx
theorem FE {kvs:List (List Key×V)}(ok:eS P w H h)(e:H a=some (.dT kvs)):kvs.length<=sizeLine/\(a == sysModules)=false /\
  ∃xs,KT H kvs xs/\h.DictOfH (tupleKind (ba P w)) a xs:=pV ok (.inl e)
end
def dQ (H:Hp)(a:Addr)(y:V)(r:Option V):Prop :=
 (∃kvs k,Rd H a (.dK kvs)/\y=kV k/\r=cw kvs k)\/∃kvs k b,Rd H a (.dT kvs)/\y=.ref b/\H b=some (.tup (k.map kV))/\r=cw kvs k
def lh (H:Hp)(a:Addr)(y v:V)(H':Hp):Prop :=
 (∃kvs k,H a=some (.dK kvs)/\y=kV k/\kvs.length<sizeLine/\H' = upd H a (.dK (putK kvs k v))) \/
 ∃kvs k b,H a=some (.dT kvs)/\y=.ref b/\H b=some (.tup (k.map kV))/\kvs.length<sizeLine/\H' = upd H a (.dT (putK kvs k v))
theorem dQ.k {H:Hp}{a:Addr}{kvs:List (Key×V)}{k:Key}(e:H a=some (.dK kvs)):dQ H a (kV k) (cw kvs k):=.inl ⟨kvs,k,.inl e,rfl,rfl⟩
theorem lh.k {H:Hp}{a:Addr}{kvs:List (Key×V)}{k:Key}{v:V}(e:H a=some (.dK kvs))(hl:kvs.length<sizeLine):lh H a (kV k) v (upd H a (.dK (putK kvs k v))):=.inl ⟨kvs,k,e,rfl,hl,rfl⟩
section
variable {X:Cx}{pins:BT}{Hh : St}{H:Hp}{s:Shared}{a:Addr}{y v:V}{u r:Value}{o:Option V}{A:Around}{E:AT}
theorem Inv.big (I:Inv X pins Hh H s):sysModules<s.heap.objs.size:=by
 have h:mainGlobals<s.heap.objs.size:=(I.mod.glob.keeps I.bk).lt;exact JL ⋯ h
theorem zw {Q:AT}(hu:A.units+1<cLine)(I:Inv X pins Hh H s)(g:dQ H a y (some v))(ry:RelV y u)(h:∀w' s',Inv X pins Hh H s'->RelV v w'->Q w' s') :
  wpAny (model X.prog X.w) A (getItem (.ref a) u) Q E s:=by
 rcases g with ⟨kvs,k,e,ey,l⟩ | ⟨kvs,k,b,e,ey,eb,l⟩
 ·subst ey;obtain⟨z,hd,vs,rel,dd⟩:=nI I.bc e;obtain⟨w',hw,rw'⟩:=fq.some_of (v:=v) (o:=valueAt vs k) (by rw[l];exact rel.val k);exact wpAny_getItem_of (lg ry) dd.mapOf hw (h w' _ (I.tok _) rw')
 ·subst ey;cases (show u=Value.ref b from ry);obtain⟨z,hd,xs,rel,dd⟩:=pV I.bc e;obtain⟨w',hw,rw'⟩:=fq.some_of (v:=v) (o:=(atKey xs k).map (·.2)) (by rw[l];exact rel.val k);obtain⟨p,hp,hp2⟩:=Option.map_eq_some_iff.mp hw;refine wpAny_getItem_heap (tupleKind_room_in1 hu) (pU I.bc eb) dd hp ?_;rw[hp2];exact h w' _ (I.tok _) rw'
theorem q8 {h':Heap}{t':Nat}{ob:HO}(I:Inv X pins Hh H s)(mu:yU (H a))(hs:HR a s.heap h')(he:∃q,h'.get? a=some q)(new:b0 X.prog X.w (upd H a ob) h' a ob) :
  Inv X pins Hh (upd H a ob) { s with heap:=h',toks:=t' } :=
 I.write (x:=a) (e:=a) mu (.inl rfl) (λ b q hb z=>(hs.2 b hb).trans z) he new
theorem mJ {P:Program}{w:World}{H':Hp}{h':Heap}{kvs:List (Key×V)}{vs:List (Key×Value)}(z:kvs.length<=sizeLine)(hd:(a == sysModules)=false)(rel:KV kvs vs)(dd:h'.DictOf (ba P w) a vs) :
  b0 P w H' h' a (.dK kvs):=⟨z,hd,vs,rel,dd⟩
theorem zx {H':Hp}{Q:Unit->Shared->Prop}(hu:A.units+1<cLine)(I:Inv X pins Hh H s)(g:lh H a y v H')(ry:RelV y u)(rv:RelV v r)(h:∀s',Inv X pins Hh H' s'->Q () s') :
  wpAny (model X.prog X.w) A (setItem (.ref a) u r) Q E s:=by
 rcases g with ⟨kvs,k,e,ey,l,eH⟩ | ⟨kvs,k,b,e,ey,eb,l,eH⟩
 ·subst ey eH;obtain⟨z,hd,vs,rel,dd⟩:=pT I.bc e;have hz:vs.length<=sizeLine:=by rw[<-rel.length];exact z
  have hl:(putK kvs k v).length<=sizeLine:=by have:=om kvs k v;omega
  refine wpAny_setItem_pairs (hsz:=hz) (lg ry) dd λ h' dd' hs=>h _ ?_
  have he:∃q,h'.get? a=some q:=let ⟨q,_,_,hq,_⟩:=dd';⟨q,hq⟩
  exact q8 I (by rw[e];exact True.intro) hs he (mJ hl hd (rel.put k rv) dd')
 ·subst ey eH;cases (show u=Value.ref b from ry);obtain⟨z,hd,xs,rel,dd⟩:=FE I.bc e;have hz:xs.length<=sizeLine:=by rw[<-Paired.length rel];exact z
  have hl:(putK kvs k v).length<=sizeLine:=by have:=om kvs k v;omega
  refine wpAny_setItem_heap (hsz:=hz) (tupleKind_room_in1 hu) (pU I.bc eb) dd λ h' dd' hs=>h _ ?_
  obtain⟨q,es,ep,hq,h2,h3,h4,_,h5⟩:=dd';refine q8 I (by rw[e];exact True.intro) hs ⟨q,hq⟩ ⟨hl,hd,_,(rel.put k eb rv).keeps λ c ys ec=>?_,q,es,ep,hq,h2,h3,h4,h5⟩;rw[av (bP ec e (λ z=>nomatch z))];exact ec
end
section
variable {X:Cx}{pins:BT}{Hh : St}{H:Hp}{s:Shared}{a:Addr}{kvs:List (Key×V)}{k:Key}{u:Value}{A:Around}{E:AT}
theorem FF {v:V}{more:List Value}{Q:AT}(I:Inv X pins Hh H s)(e:H a=some (.dK kvs))(ry:RelV (kV k) u)(l:cw kvs k=some v)(hm:more=[]\/∃x,more=[x])
  (h:∀w' s',Inv X pins Hh (upd H a (.dK (fk kvs k))) s'->RelV v w'->Q w' s'):wpAny (model X.prog X.w) A (call (.builtin "dict.pop") (.ref a::u::more)) Q E s:=by
 obtain⟨z,hd,vs,rel,dd⟩:=pT I.bc e;obtain⟨w',hw,rw'⟩:=fq.some_of (v:=v) (o:=valueAt vs k) (by rw[<-l];exact rel.val k);have hp:(keyPart u).isSome=true:=by
  cases k with
  | inl i=>obtain⟨t,q⟩:=(show ∃t,u=Value.int i t from ry);subst q;rfl
  | inr x=>obtain⟨t,q⟩:=(show ∃t,u=Value.str x t from ry);subst q;rfl
 have ha:argsOk "dict.pop" ⟨.ref a::u::more,[]⟩:=by
  rcases hm with q | ⟨x,q⟩
  ·subst q;exact PySem.F.args_dict_pop_2 _ _
  ·subst q;exact PySem.F.args_dict_pop_3 _ _ _
 refine call_meetsIn PySem.F.slot_dict_pop dd.typeIs PySem.F.entry_dict_pop ha (meets_dict_pop_there (ba X.prog X.w) a (lg ry) more hm hp)
  ⟨vs,w',dd,by rw[<-rel.length];exact z,hw,λ h' dd' hs=>h w' _ ?_ rw'⟩
 have he:∃q,h'.get? a=some q:=let ⟨q,_,_,hq,_⟩:=dd';⟨q,hq⟩
 exact q8 I (by rw[e];exact True.intro) hs he (mJ (Hu (Bf kvs k) z) hd (rel.drop k) dd')
theorem ER {r:Value}{Q:AT}(I:Inv X pins Hh H s)(e:H a=some (.dK kvs))(ry:RelV (kV k) u)(l:cw kvs k=none)(h:∀s',Inv X pins Hh H s'->Q r s') :
  wpAny (model X.prog X.w) A (call (.builtin "dict.pop") [.ref a,u,r]) Q E s:=by
 obtain⟨z,hd,vs,rel,dd⟩:=pT I.bc e;have hn:valueAt vs k=none:=fq.none_of (by rw[<-l];exact rel.val k);have hp:(keyPart u).isSome=true:=by
  cases k with
  | inl i=>obtain⟨t,q⟩:=(show ∃t,u=Value.int i t from ry);subst q;rfl
  | inr x=>obtain⟨t,q⟩:=(show ∃t,u=Value.str x t from ry);subst q;rfl
 exact call_meetsIn PySem.F.slot_dict_pop dd.typeIs PySem.F.entry_dict_pop (PySem.F.args_dict_pop_3 _ _ _) (meets_dict_pop_default (ba X.prog X.w) a (lg ry) hd hp r) ⟨vs,dd,hn,h _ (I.tok _)⟩
end
def yf (i:Expr):Prop:=∀ov iv,subscripted i false ov iv=operate [ov,iv] (getItem ov iv)
theorem q9 {prog:Program}{w:World}{A:Around}{E:AT}{s:Shared}{env:Env}{value slice:Expr}{pos:Pos}{T id:String}{Q:AT}
  (hl:typeLookup (.type T) "__getitem__" = pure (some (.builtin id))) (hs:yf slice)
  (h:wpAny (model prog w) A (eval value env) (λ o s₁=>wpAny (model prog w) A (eval slice env) (λ i s₂=>s₂.TypeIs o T/\wpAny (model prog w) A (getItem o i) Q E s₂) E s₁) E s) :
  wpAny (model prog w) A (eval (.Subscript value slice pos) env) Q E s:=by
 refine Subscript_ (J9 h (λ o s₁ h₁=>J9 h₁ (λ i s₂ h₂=>?_) λ _ _ x=>x) λ _ _ x=>x);obtain⟨hT,h₂⟩:=h₂;unfold subscriptTail;refine J7 ?_;rw[getitemInPython_of_ne hT.not_modules];refine J7 (wpAny_specialOf hT hl ?_);have fin:wpAny (model prog w) A (subscripted slice false o i) (λ r s₃=>wpAny (model prog w) A (letTemporaryGo value o r >>= λ _=>pure r) Q E s₃) E s₂:=by
  rw[hs o i];exact wpAny_operating (J9 h₂ (λ r s₃ h₃=>J7 (wpAny_letTemporaryGo (J8 h₃))) λ _ _ x=>x)
 first
  | exact J8 (J7 fin)
  | exact J7 (J8 (J7 fin))
  | exact J7 fin
theorem vZ {X:Cx} {pins:BT} {Hh : St} {H:Hp} {s:Shared} {a:Addr} {y:V} {o:Option V} (I:Inv X pins Hh H s) (g:dQ H a y o):s.TypeIs (.ref a) "dict" := by
 rcases g with ⟨kvs,k,e,_,_⟩ | ⟨kvs,k,b,e,_,_,_⟩
 ·obtain⟨_,_,vs,_,dd⟩:=nI I.bc e;exact dd.typeIs
 ·obtain⟨_,_,xs,_,dd⟩:=pV I.bc e;exact dd.typeIs
inductive Bg (Q:VK) (x:V) (y:V) (H2:Hp):Prop
 | mk (a v:_) (_:x=.ref a) (_:dQ H2 a y (some v)) (_:Q v H2)
def FG (td ty:TE):TE:=λ Hh H Q=>td Hh H λ x H1=>ty Hh H1 λ y H2=>Bg Q x y H2
def FH (td ty tv:TE):TS:=λ D Hh H=>tv Hh H λ v H1=>td Hh H1 λ x H2=>ty Hh H2 λ y H3=>∃a H4,x=.ref a/\lh H3 a y v H4/\D.nx Hh H4
section
variable {X:Cx}{o i e value:Expr}{pos pos' tpos:Pos}{td ty tv:TE}
theorem kC (hu:X.A.units+1<cLine)(ho:PE X o td)(hi:PE X i ty)(hs:yf i):PE X (.Subscript o i pos) (FG td ty):=by
 intro pins s Hh H Q I h;refine q9 PySem.F.slot_dict_getitem.lookup hs (bx (ho pins s Hh H _ I h) λ u s1 ⟨x,H1,I1,rx,q1⟩=>bx (hi pins s1 Hh H1 _ I1 q1) λ iv s2 ⟨y,H2,I2,ry,a,v,ex,g,q2⟩=>?_);subst ex;obtain rfl:u=Value.ref a:=rx;exact⟨vZ I2 g,zw hu I2 g ry λ w' s3 I3 rw'=>⟨v,H2,I3,rw',q2⟩⟩
theorem kF (hu:X.A.units+1<cLine)(ho:PE X o td)(hi:PE X i ty)(hv:PE X value tv)(hs:swapsWith value (some (.Subscript o i pos')) pos.line X.env=pure false) :
  PS X (.Assign [.Subscript o i pos'] value pos) (FH td ty tv):=by
 intro pins s Hh H D I h;refine wpAny_Assign_Subscript (bx (hv pins s Hh H _ I h) λ r s1 ⟨v,H1,I1,rv,q1⟩=>bx (ho pins s1 Hh H1 _ I1 q1) λ u s2 ⟨x,H2,I2,rx,q2⟩=>bx (hi pins s2 Hh H2 _ I2 q2) λ iv s3 ⟨y,H3,I3,ry,a,H4,ex,g,q3⟩=>?_) hs;subst ex;obtain rfl:u=Value.ref a:=rx;exact zx hu I3 g ry rv λ s4 I4=>⟨Hh,H4,I4,q3⟩
end
theorem uV {P:Program}{w:World}{H:Hp}(h:Heap)(hb:sysModules<h.objs.size):b0 P w H (h.push { cls:=.type "dict",data:=.dict #[] }) h.objs.size (.dK []) :=
 ⟨HL _,beq_eq_false_iff_ne.mpr (Ne.symm (Hw hb)),[],.nil,Heap.DictOf.new h⟩
def ES:TE:=λ _ H Q=>∀p,H p=none->Q (.ref p) (upd H p (.dK []))
section
variable {X:Cx}{pos:Pos}
theorem oZ:PE X (.Dict [] [] pos) ES:=λ pins s Hh H Q I h =>
 wpAny_Dict_empty ⟨.ref s.heap.objs.size,_,I.laid (a:=s.heap.objs.size) (o:=.dK []) (t':=s.toks) (λ _ _ q=>Hr _ q) (Hn _) (uV s.heap I.big),rfl,h _ (I.bc.fresh (Hn _))⟩
end
def uW:List (TE×TE)->St->Hp->(List (V×V)->Hp->Prop)->Prop
 | [],_,H,Q=>Q [] H
 | (tk,tv)::r,Hh,H,Q=>tk Hh H λ x H1=>tv Hh H1 λ y H2=>uW r Hh H2 λ ps H3=>Q ((x,y)::ps) H3
abbrev VV:List (V×V)->List (Value×Value)->Prop:=Paired λ p q=>RelV p.1 q.1/\RelV p.2 q.2
def CP (X:Cx)(pos:Pos)(keys:List (Option Expr))(values:List Expr)(trs:List (TE×TE)):Prop :=
 ∀(pins:BT) (s:Shared) (Hh : St) (H:Hp) (Q:List (V×V)->Hp->Prop),Inv X pins Hh H s->uW trs Hh H Q ->
  wpAny (model X.prog X.w) X.A (evalPairs (pairTrees keys values X.env pos)) (λ vs s'=>∃ps H',Inv X pins Hh H' s'/\VV ps vs/\Q ps H') X.xe s
theorem Dv {X:Cx}{pos:Pos}:CP X pos [] [] []:=λ pins s Hh H Q I h=>pairTrees_nil_walk ⟨[],H,I,.nil,h⟩
theorem Bh {X:Cx}{pos:Pos}{k v:Expr}{ks:List (Option Expr)}{vs:List Expr}{tk tv:TE}{trs:List (TE×TE)}(hk:PE X k tk)(hv:PE X v tv)(hr:CP X pos ks vs trs) :
  CP X pos (some k::ks) (v::vs) ((tk,tv)::trs):=λ pins s Hh H Q I h =>
 pairTrees_cons_walk (bx (hk pins s Hh H _ I h) λ u s1 ⟨x,H1,I1,rx,q1⟩=>bx (hv pins s1 Hh H1 _ I1 q1) λ w2 s2 ⟨y,H2,I2,ry,q2⟩ =>
  bx (hr pins s2 Hh H2 _ I2 q2) λ ws s3 ⟨ps,H3,I3,rel,q3⟩=>⟨(x,y)::ps,H3,I3,.cons ⟨rx,ry⟩ rel,q3⟩)
structure M2 (X:Cx) (o:Expr) (m:Str) (apos:Pos) (e f:Expr) (cpos:Pos):Prop where
 base:attributeBase o m X.env (eval o X.env)=eval o X.env
 bV:((backTo cpos (starEach [e,f] X.env)).all (λ x=>!x.1)&&(backToKw cpos (keywordEach [] X.env)).all (λ x=>x.1.isSome)
  && decide (([e,f]:List Expr).length+([]:List Keyword).length+(if ([]:List Keyword).isEmpty then 0 else 1)<30))=true
 line:(apos.endLine == cpos.line)=true
 trees:backTo cpos (starEach [e,f] X.env)=[(false,eval e X.env),(false,eval f X.env)]
def ET (H:Hp)(a:Addr):Prop:=(∃kvs,Rd H a (.dK kvs))\/∃kvs,Rd H a (.dT kvs)
theorem zy {X:Cx}{pins:BT}{Hh : St}{H:Hp}{s:Shared}{a:Addr}(I:Inv X pins Hh H s)(d:ET H a) :
  s.TypeIs (.ref a) "dict" /\ (∀b,Value.ref a=.ref b->∃ob,s.heap.get? b=some ob/\ob.dict=none)/\(a == sysModules)=false:=by
 rcases d with ⟨kvs,e⟩ | ⟨kvs,e⟩
 ·obtain⟨_,hd,vs,_,dd⟩:=nI I.bc e;refine⟨dd.typeIs,λ b q=>?_,hd⟩;cases q;obtain⟨ob,_,_,h1,h2,_⟩:=dd;exact⟨ob,h1,h2.2.1⟩
 ·obtain⟨_,hd,xs,_,dd⟩:=pV I.bc e;refine⟨dd.typeIs,λ b q=>?_,hd⟩;cases q;obtain⟨ob,_,_,h1,h2,_⟩:=dd;exact⟨ob,h1,h2.2.1⟩
section
variable {X:Cx}{pins:BT}{Hh : St}{H:Hp}{s:Shared}{a:Addr}{y d:V}{u r:Value}{o:Option V}{A:Around}{E:AT}
theorem EU {Q:AT}(hu:A.units+1<cLine)(I:Inv X pins Hh H s)(g:dQ H a y o)(ry:RelV y u)(rd:RelV d r)(h:∀w' s',Inv X pins Hh H s'->RelV (o.getD d) w'->Q w' s') :
  wpAny (model X.prog X.w) A (call (.builtin "dict.get") [.ref a,u,r]) Q E s:=by
 rcases g with ⟨kvs,k,e,ey,l⟩ | ⟨kvs,k,b,e,ey,eb,l⟩
 ·subst ey;obtain⟨z,hd,vs,rel,dd⟩:=nI I.bc e;refine call_meetsIn PySem.F.slot_dict_get dd.typeIs PySem.F.entry_dict_get (PySem.F.args_dict_get_3 _ _ _) (meets_dict_get_default (ba X.prog X.w) a (lg ry) hd r) ⟨_,dd.mapOf,h _ _ (I.tok _) ?_⟩;rw[l];exact (rel.val k).getD rd
 ·subst ey;cases (show u=Value.ref b from ry);obtain⟨z,hd,xs,rel,dd⟩:=pV I.bc e;refine call_meetsIn PySem.F.slot_dict_get dd.typeIs PySem.F.entry_dict_get (PySem.F.args_dict_get_3 _ _ _) (meetsH_dict_get_default (tupleKind (ba X.prog X.w)) a b hd r) ⟨tupleKind_room_in1 hu,k,xs,pU I.bc eb,dd,h _ _ (I.tok _) ?_⟩;rw[l];exact (rel.val k).getD rd
end
inductive zA (Q:VK) (a:Addr) (y:V) (z:V) (H3:Hp):Prop
 | mk (kvs k:_) (_:H3 a=some (.dK kvs)) (_:y=kV k) (_:(∀v,cw kvs k=some v->Q v (upd H3 a (.dK (fk kvs k))))) (_:(cw kvs k=none->Q z H3))
inductive zB (ty:TE) (tx:TE) (Hh : St) (Q:VK) (x:V) (H1:Hp):Prop
 | mk (a:_) (_:x=.ref a) (_:ET H1 a) (_:ty Hh H1 λ y H2=>tx Hh H2 λ z H3=>zA Q a y z H3)
def EV (td ty tx:TE):TE:=λ Hh H Q=>td Hh H λ x H1=>zB ty tx Hh Q x H1
section
variable {X:Cx}{o e f:Expr}{apos cpos:Pos}{td ty tx:TE}
theorem uX (ho:PE X o td) (he:PE X e ty) (hf:PE X f tx) (m:M2 X o "pop" apos e f cpos):PE X (.Call (.Attribute o "pop" apos) [e,f] [] cpos) (EV td ty tx):=by
 intro pins s Hh H Q I h;refine wpAny_Call_method m.base m.bV m.line PySem.F.plainAttrs_dict PySem.F.slot_dict_pop PySem.F.type_dict_pop (bx (ho pins s Hh H _ I h) λ u s1 ⟨x,H1,I1,rx,a,ex,d,q1⟩=>?_);subst ex;obtain rfl:u=Value.ref a:=rx;obtain⟨t1,t2,_⟩:=zy I1 d;exists t1,t2;rw[m.trees];refine Calls.callWith_builtin rfl (Calls.evalArgs_plain (Calls.spliced_cons (bx (he pins s1 Hh H1 _ I1 q1) λ iv s2 ⟨y,H2,I2,ry,q2⟩ =>
  Calls.spliced_cons (bx (hf pins s2 Hh H2 _ I2 q2) λ fv s3 ⟨z,H3,I3,rz,kvs,k,ea,ey,q3,q4⟩=>Calls.spliced_nil ?_))))
 subst ey;cases l:cw kvs k with
 | some v=>exact FF I3 ea ry l (.inr ⟨fv,rfl⟩) λ w' s4 I4 rw'=>⟨v,_,I4,rw',q3 v l⟩
 | none=>exact ER I3 ea ry l λ s4 I4=>⟨z,H3,I4,rz,q4 l⟩
end
section
variable {X:Cx}{pins:BT}{Hh : St}{H:Hp}{s:Shared}{a:Addr}{kvs:List (Key×V)}{A:Around}{E:AT}
end
section
variable {X:Cx}{pins:BT}{Hh : St}{H:Hp}{s:Shared}{a:Addr}{y:V}{u:Value}{A:Around}{E:AT}
end
section
variable {X:Cx}
end
section
variable {κ : Type}[DecidableEq κ]
theorem Dw {kvs:List (κ×V)}{k:κ}{v:V}(h:cw kvs k=some v):k∈kvs.map (·.1):=by
 have q:(kvs.any λ kv=>decide (kv.1=k))=true:=by
  rw[iw,h]
  all_goals rfl
 obtain⟨p,hp,e⟩:=List.any_eq_true.mp q;exact HE.mpr ⟨p,hp,of_decide_eq_true e⟩
theorem sL {p:κ×V}{r:List (κ×V)}{k:κ}(e:p.1=k):fk (p::r) k=fk r k:=by
 unfold fk;rw[JK,if_neg (by simp[e])]
theorem sM {p:κ×V}{r:List (κ×V)}{k:κ}(e:¬p.1=k):fk (p::r) k=p::fk r k:=by
 unfold fk;rw[JK,if_pos (by simp[e])]
end
theorem bg.bQ {H:Hp}{v:V}{ds:List PyData}(h:bg H v (.tuple ds)):∃p xs,v=.ref p/\H p=some (.tup xs)/\bp H xs ds:=by
 cases h with
 | tup e r=>exact⟨_,_,rfl,e,r⟩
theorem bg.int_inv {H:Hp}{v:V}{i:Int}(h:bg H v (.int i)):v=.int i:=by cases h;rfl
theorem bg.str_inv {H:Hp}{v:V}{x:Str}(h:bg H v (.str x)):v=.str x:=by cases h;rfl
theorem bp.cons_inv {H:Hp}{xs:List V}{d:PyData}{ds:List PyData}(h:bp H xs (d::ds)):∃x r,xs=x::r/\bg H x d/\bp H r ds:=by
 cases h with
 | cons a b=>exact⟨_,_,rfl,a,b⟩
theorem bp.nil_inv {H:Hp}{xs:List V}(h:bp H xs []):xs=[]:=by cases h;rfl
theorem bp.get {H:Hp}:∀{xs:List V} {ds:List PyData} {i:Nat} {d:PyData},bp H xs ds->ds[i]?=some d->∃x,xs[i]?=some x/\bg H x d
 | _,_,_,_,.nil,e=>by simp at e
 | _,_,0,_,.cons r _,e=>by
  simp at e;subst e;exact⟨_,rfl,r⟩
 | _,_,i+1,d,.cons _ t,e=>by
  obtain⟨x,h1,h2⟩:=bp.get (i:=i) (d:=d) t (by simpa using e);exact⟨x,by simpa using h1,h2⟩
def uv:cH->List V
 | .put x n=>[.str "put",.str x,.int n]
 | .copy x y=>[.str "copy",.str x,.str y]
 | .add x n=>[.str "add",.str x,.int n]
 | .read x=>[.str "read",.str x]
 | .tell x=>[.str "tell",.str x]
def bR:End->List V
 | .stop=>[.str "stop"]
 | .go p=>[.str "go",.int p]
 | .aR b x n p q=>[.str (wT b),.str x,.int n,.int p,.int q]
theorem ix {H:Hp}{v:V}{d:cH}(h:bg H v (bI d)):∃p,v=.ref p/\H p=some (.tup (uv d)):=by
  cases d<;>(
    obtain⟨p,xs,rfl,e,r⟩:=bg.bQ h;obtain⟨x1,r1,rfl,h1,r⟩:=r.cons_inv;obtain⟨x2,r2,rfl,h2,r⟩:=r.cons_inv
    first
      | (obtain⟨x3,r3,rfl,h3,r⟩:=r.cons_inv
         have z:=r.nil_inv;subst z;exists p,rfl
         first
           | rw[e,h1.str_inv,h2.str_inv,h3.int_inv];rfl
           | rw[e,h1.str_inv,h2.str_inv,h3.str_inv];rfl)
      | (have z:=r.nil_inv
         subst z;exists p,rfl;rw[e,h1.str_inv,h2.str_inv];rfl))
theorem EW {H:Hp}{v:V}{e:End}(h:bg H v (e6 e)):∃p,v=.ref p/\H p=some (.tup (bR e)):=by
 cases e with
 | stop =>
  obtain⟨p,xs,rfl,e,r⟩:=bg.bQ h;obtain⟨x1,r1,rfl,h1,r⟩:=r.cons_inv;have z:=r.nil_inv;subst z;exact⟨p,rfl,by rw[e,h1.str_inv];rfl⟩
 | go q =>
  obtain⟨p,xs,rfl,e,r⟩:=bg.bQ h;obtain⟨x1,r1,rfl,h1,r⟩:=r.cons_inv;obtain⟨x2,r2,rfl,h2,r⟩:=r.cons_inv;have z:=r.nil_inv;subst z;exact⟨p,rfl,by rw[e,h1.str_inv,h2.int_inv];rfl⟩
 | aR b x n q q' =>
  obtain⟨p,xs,rfl,e,r⟩:=bg.bQ h;obtain⟨x1,r1,rfl,h1,r⟩:=r.cons_inv;obtain⟨x2,r2,rfl,h2,r⟩:=r.cons_inv;obtain⟨x3,r3,rfl,h3,r⟩:=r.cons_inv;obtain⟨x4,r4,rfl,h4,r⟩:=r.cons_inv;obtain⟨x5,r5,rfl,h5,r⟩:=r.cons_inv;have z:=r.nil_inv;subst z;exact⟨p,rfl,by rw[e,h1.str_inv,h2.str_inv,h3.int_inv,h4.int_inv,h5.int_inv];rfl⟩
theorem fE {H:Hp}{v:V}{ps:List Piece}{i:Nat}{ds:List cH}{e:End}(h:bg H v (eF ps))(hi:ps[i]?=some (ds,e)) :
  ∃p xs pc da ea vs,v=.ref p/\H p=some (.tup xs)/\xs.length=ps.length/\xs[i]?=some (.ref pc)/\H pc=some (.tup [.ref da,.ref ea])/\H da=some (.tup vs)/\bp H vs (ds.map bI)/\H ea=some (.tup (bR e)):=by
 obtain⟨p,xs,rfl,e1,r⟩:=bg.bQ h;have hl:=r.len;obtain⟨x,hx,rx⟩:=r.get (i:=i) (d:=eN (ds,e)) (by rw[HC,hi];rfl);obtain⟨pc,ys,rfl,e2,r2⟩:=bg.bQ rx;obtain⟨y1,t1,rfl,q1,r2⟩:=r2.cons_inv;obtain⟨y2,t2,rfl,q2,r2⟩:=r2.cons_inv;have z:=r2.nil_inv;subst z;obtain⟨da,vs,rfl,e3,r3⟩:=bg.bQ q1;obtain⟨ea,rfl,e4⟩:=EW q2;exact⟨p,xs,pc,da,ea,vs,rfl,e1,by rw[hl,Hk],hx,e2,e3,r3,e4⟩
theorem yg {n:Nat}(h:n<=1000000):n<sizeLine:=Jo h ⋯
theorem aY {c:Bool}{A B:Prop}(hc:c=false)(h:B):if c=true then A else B:=by subst hc;exact br h
theorem bJ {c:Bool}{A B:Prop}(hc:c=true)(h:A):if c=true then A else B:=by subst hc;exact bf h
inductive yh (Q:VK) (a:Addr) (y:V) (z:V) (H3:Hp):Prop
 | mk (o v:_) (_:dQ H3 a y o) (_:o.getD z=v) (_:Q v H3)
inductive yi (ty:TE) (tx:TE) (Hh : St) (Q:VK) (x:V) (H1:Hp):Prop
 | mk (a:_) (_:x=.ref a) (_:ET H1 a) (_:ty Hh H1 λ y H2=>tx Hh H2 λ z H3=>yh Q a y z H3)
def Dx (td ty tx:TE):TE:=λ Hh H Q=>td Hh H λ x H1=>yi ty tx Hh Q x H1
theorem d9 {X:Cx} {o e f:Expr} {apos cpos:Pos} {td ty tx:TE} (hu:X.A.units+1<cLine) (ho:PE X o td) (he:PE X e ty) (hf:PE X f tx) (m:M2 X o "get" apos e f cpos):PE X (.Call (.Attribute o "get" apos) [e,f] [] cpos) (Dx td ty tx):=by
 intro pins s Hh H Q I h;refine wpAny_Call_method m.base m.bV m.line PySem.F.plainAttrs_dict PySem.F.slot_dict_get PySem.F.type_dict_get (bx (ho pins s Hh H _ I h) λ u s1 ⟨x,H1,I1,rx,a,ex,d,q1⟩=>?_);subst ex;obtain rfl:u=Value.ref a:=rx;obtain⟨t1,t2,_⟩:=zy I1 d;exists t1,t2;rw[m.trees];refine Calls.callWith_builtin rfl (Calls.evalArgs_plain (Calls.spliced_cons (bx (he pins s1 Hh H1 _ I1 q1) λ iv s2 ⟨y,H2,I2,ry,q2⟩ =>
  Calls.spliced_cons (bx (hf pins s2 Hh H2 _ I2 q2) λ fv s3 ⟨z,H3,I3,rz,ov,v,g,ev,q3⟩=>Calls.spliced_nil ?_))))
 exact EU hu I3 g ry rz λ w' s4 I4 rw'=>⟨v,H3,I4,by rw[<-ev];exact rw',q3⟩
structure RS where
 FI:Nat
 place:Nat
 w:Str->Int
 taken:Nat
 told:List Int
 word:Str
 Bi:List Nat
def DW (kvs:List (Key×V))(w:Str->Int):Prop:=∀x:Str,(cw kvs (Sum.inr x:Key)).getD (.int 0)=.int (w x)
def ef (ps:List Piece):Prop:=∀p∈ps,match p.2 with
 | .stop=>True
 | .go q=>q<ps.length
 | .aR _ _ _ q r=>q<ps.length/\r<ps.length
theorem cI.mK {xs:List Str}{m:Nat}{ps:List Piece}(h:cI xs m ps):ef ps:=λ p hp=>by
 have:=h.ends p hp;cases e:p.2 with
 | stop=>exact True.intro
 | go q=>rw[e] at this;exact this
 | aR b x n q r=>rw[e] at this;exact⟨this.2.2.1,this.2.2.2⟩
def vO:Option Int->V
 | none=>.aZ
 | some i=>.int i
def iR:Option Int->Option Int->Prop
 | some a,some b=>a<=b
 | _,_=>True
def cN (n:Int)(lo hi:Option Int):Bool:=(match lo with | none=>true | some a=>decide (a<=n))&&(match hi with | none=>true | some a=>decide (n<=a))
abbrev Rs:=Option (Option Int×Option Int)
def iY (hi:Option Int)(n:Int):Int:=match hi with | none=>n-1 | some h=>if n-1<h then n-1 else h
def iZ (lo:Option Int)(n:Int):Int:=match lo with | none=>n | some l=>if n > l then n else l
def gG (lo hi:Option Int)(n:Int):Rs :=
 match lo with | none=>some (none,some (iY hi n)) | some l=>if iY hi n<l then none else some (some l,some (iY hi n))
def iL (lo hi:Option Int)(n:Int):Rs :=
 match hi with | none=>some (some (iZ lo n),none) | some h=>if h<iZ lo n then none else some (some (iZ lo n),some h)
def lX (lo hi:Option Int)(n:Int):Rs:=if cN n lo hi=true then some (some n,some n) else none
def jA (lo hi:Option Int)(n:Int):Rs:=if lo=some n then (if hi=some n then none else some (some (n+1),hi)) else if hi=some n then some (lo,some (n-1)) else some (lo,hi)
def lj (lo hi:Option Int)(n:Int)(side:Bool):Rs:=if side=true then gG lo hi n else iL lo hi n
def uY (lo hi:Option Int)(n:Int)(side:Bool):Rs:=if side=true then lX lo hi n else jA lo hi n
def dX (w:Str)(lo hi:Option Int)(n:Int)(side:Bool):Rs:=if w = "less" then lj lo hi n side else uY lo hi n side
theorem Bj {w:Str}{lo hi:Option Int}{n:Int}(le:iR lo hi)(h1:dX w lo hi n true=none)(h2:dX w lo hi n false=none):False:=by
 unfold dX at h1 h2;by_cases hw:w = "less"
 ·rw[if_pos hw] at h1 h2;simp only[lj,if_true,IB,if_false] at h1 h2;unfold gG iY at h1;unfold iL iZ at h2;cases lo<;>cases hi<;>simp only[reduceCtorEq] at h1 h2
  rename_i l h
  simp only[iR] at le;by_cases c1:n-1<h
  ·simp only[c1,if_true] at h1;by_cases c2:n-1<l
   ·by_cases c3:n > l
    ·simp only[c3,if_true] at h2;split at h2
     ·omega
     ·cases h2
    ·simp only[c3,if_false] at h2;split at h2
     ·omega
     ·cases h2
   ·rw[if_neg c2] at h1;cases h1
  ·simp only[c1,if_false] at h1;split at h1
   ·omega
   ·cases h1
 ·rw[if_neg hw] at h1 h2;simp only[uY,if_true,IB,if_false] at h1 h2;unfold jA at h2;by_cases c1:lo=some n
  ·rw[if_pos c1] at h2;by_cases c2:hi=some n
   ·subst c1;subst c2;simp[lX,cN] at h1
   ·rw[if_neg c2] at h2;cases h2
  ·rw[if_neg c1] at h2;split at h2<;>cases h2
def RV (H:Hp)(v:V)(r:Rs):Prop:=match r with
 | none=>v=.aZ
 | some (a,b)=>∃p,v=.ref p/\H p=some (.tup [vO a,vO b])
theorem RV.same {H H':Hp}{v:V}{r:Rs}(h:RV H v r)(s:ah H H'):RV H' v r:=by
 cases r with
 | none=>exact h
 | some ab =>
  obtain⟨p,e,h⟩:=h;exact⟨p,e,s _ _ h⟩
theorem RV.put {H:Hp}{v:V}{r:Rs}{l:Addr}{xs:List V}{o:HO}(h:RV H v r)(hl:H l=some (.lst xs)):RV (upd H l o) v r:=by
 cases r with
 | none=>exact h
 | some ab =>
  obtain⟨p,e,h⟩:=h;exact⟨p,e,by rw[av (bP h hl (by intro z;cases z))];exact h⟩
def dO:Option Int->PyData
 | none=>.none
 | some i=>.int i
theorem EX {H:Hp}(o:Option Int):bg H (vO o) (dO o):=by
 cases o with
 | none=>exact .aZ
 | some i=>exact .int i
theorem ah.put {H H':Hp}{l:Addr}{o:HO}(s:ah H H')(n:H l=none):ah H (upd H' l o):=λ c u e=>by rw[av (aQ e n)];exact s c u e
theorem zC:decide (V.str "less" = V.str "less")=true:=by decide
theorem jV {lo:Option Int}{n:Int}:decide (vO lo=V.int n)=decide (lo=some n):=by
 cases lo with
 | none=>rfl
 | some i =>
  by_cases h:i=n
  ·subst h;simp[vO]
  ·have h1:¬(V.int i=V.int n):=λ z=>h (V.int.inj z)
   have h2:¬((some i:Option Int)=some n):=λ z=>h (HB.inj z)
   rw[show vO (some i)=V.int i from rfl,decide_eq_false h1,decide_eq_false h2]
theorem iS {lo:Option Int}{n:Int}:AJ (vO lo) (V.int n)=true:=by cases lo<;>rfl
structure Bk (P:Program) (w:World) (K:Hl) (mg:Ch) (base:Heap) (C:Addr) (m:Str) (k:Nat) (ps:List Str) (sp:Sp):Prop where
 cl:lW K C
 ex:∃f fd,bA P w K mg base bY k f fd ps sp/\Meth K C m f/\Binds K fd ps []
structure Bm (P:Program) (w:World) (K:Hl) (mg:Ch) (base:Heap) (C:Addr) (x:Str) (k:Nat) (ps:List Str) (sp:Sp):Prop where
 ex:∃f fd,bA P w K mg base bY k f fd ps sp/\Mk K C f/\mg x=some (.ref C)/\Binds K fd ps []
section
variable {X:Cx}{C:Addr}{m x:Str}{k:Nat}{ps:List Str}{sp:Sp}{oe e:Expr}{es:List Expr}{ta:TE}{t:TA}{p pos apos:Pos}
theorem Dy {pl:Sem Bool}(o:Bk X.prog X.w X.K X.mg X.base C m k ps sp)(he:PE X oe ta)(hr:dz k X.A)(ha:PA X (e::es) t)
  (hst:starEach (e::es) X.env=(false,eval e X.env)::starEach es X.env:=by rfl) (hpl:(backTo pos (starEach es X.env)).any (·.1)=false:=by rfl)
  (ht:eval (.Call (.Attribute oe m apos) (e::es) [] pos) X.env=(do
   let ov <-eval oe X.env
   standAt apos.atName
   let (f,first) <-holding [ov] (getMethod ov m pl)
   callWith pos f first (backTo pos (starEach (e::es) X.env)) (backToKw pos (keywordEach [] X.env))):=by rfl) :
  PE X (.Call (.Attribute oe m apos) (e::es) [] pos) (CA C m sp [] E0 ta t):=by
 obtain⟨f,fd,F,hm,hb⟩:=o.ex;exact Dc he o.cl hm F hr hb .nil yb ha hst hpl ht
theorem Dz (o:Bm X.prog X.w X.K X.mg X.base C x k ps sp)(hr:dz (k+1) X.A)(hg:Gl X x)(ha:PA X (e::es) t)
  (hdb:(x == ("__debug__" : Str))=false:=by decide) (he:starEach (e::es) X.env=(false,eval e X.env)::starEach es X.env:=by rfl)
  (hpl:(backTo pos (starEach es X.env)).any (·.1)=false:=by rfl):PE X (.Call (.Name x p) (e::es) [] pos) (CB C sp [] E0 t):=by
 obtain⟨f,fd,F,M,hm,hb⟩:=o.ex;exact Dd M F hr hg hm hb .nil yb ha hdb he hpl
end
theorem nJ:bootBuiltins "dict" = some (.type "dict"):=by decide
theorem EY {k:Str}{v:V}{l:List (Str×V)}:((k,v)::l).lookup k=some v:=by simp[Im]
theorem Bn {k k':Str}{v:V}{l:List (Str×V)}{o:Option V}(h:¬k=k')(e:l.lookup k=o):((k',v)::l).lookup k=o:=by
 rw[IH,beq_false_of_ne h];exact e
theorem GR {k k':Str}{v u:V}{l l':List (Str×V)}(h:¬k' = k)(e:eZ k v l=l'):eZ k v ((k',u)::l)=(k',u)::l':=by simp only[eZ,if_neg h,e]
theorem EZ {k:Str}{v:V}:eZ k v []=[(k,v)]:=rfl
def G8 (a0 a1 a2 a3 a4 a5 a6 a7:V):List (Str×V):=[("pieces",a0),("passed",a1),("place",a2),("worths",a3),("numbers",a4),("taken",a5),("spoken",a6),("over",a7)]
section
variable {a0 a1 a2 a3 a4 a5 a6 a7 z:V}
end
structure dN (C:Addr) (H:Hp) (p pl d nl sl:Addr) (plv:V) (nums:List Int) (S:RS) (m:Nat):Prop where
 ob:∃dx,H p=some (.ins C dx (G8 plv (.ref pl) (.int S.place) (.ref d) (.ref nl) (.int S.taken) (.ref sl) (.bl (decide (S.word = "stop")))))
 G9:H pl=some (.lst (S.Bi.map λ k=>V.int (k:Nat)))
 last:∃xs,S.Bi=xs++[S.FI]
 dict:∃kvs,H d=some (.dK kvs)/\DW kvs S.w/\kvs.length<=m
 nums:H nl=some (.lst (nums.map V.int))
 Ha:H sl=some (.lst (S.told.map V.int))
 ne:pl≠nl/\pl≠sl/\nl≠sl
 bV:S.told.length<=m/\S.Bi.length<=m+1
section
variable {C:Addr}{H H':Hp}{p pl d nl sl:Addr}{plv:V}{nums:List Int}{S:RS}{m:Nat}
end
end L2
namespace HT
open PySem PyProof.Rows PySem.Spec
section
variable {prog:Program}{w:World}{A:Around}{E:AT}{s:Shared}
theorem nV {t sl:Addr}{items:Array Value}{vl vu:Value}{lo hi:Option Int}{Q:AT}(ht:IsTup s.heap t items)(hs:s.heap.IsSliceOf sl vl vu .none)(pl:IsPart vl lo)(pu:IsPart vu hi)
  (hw:bU items.size 0 lo=0/\bU items.size items.size hi=items.size) (h:Q (.ref t) s):wpAny (model prog w) A (getItem (.ref t) (.ref sl)) Q E s:=by
 obtain⟨os,hos,hcs,hds⟩:=id hs;have hTs:s.TypeIs (.ref sl) "slice" := ⟨os,hos,hcs⟩;unfold getItem
 try with_reducible refine Kb ?_
 first | refine J7 (J8 ?_) | skip
 refine J7 (KH ht.typeIs ⋯ ?_);refine J7 (wpAny_callSpecial?_slot (name:=Str.ofString "__getitem__") ht.typeIs PyProof.Rows.slot_tuple_getitem
  (Kc PyProof.Rows.slot_tuple_getitem ht.typeIs entry_tuple_getitem ?_ (args_tuple_getitem _ _)))
 show wpAny _ _ (Builtin.Tuple.tupleItemsOf (.ref t) >>= _) _ _ s;refine J7 (tupleItemsOf_ ht ?_);refine J7 (Kp hTs ?_);rw[if_pos ⋯];refine J7 (jo hs pl pu ?_);have hno:((((bU items.size 0 lo:Nat):Int) == 0&&(1:Int) == 1&&(bU items.size items.size hi-bU items.size 0 lo) == items.size)=true):=by
  rw[hw.1,hw.2];simp
 show wpAny _ _ (if (((bU items.size 0 lo:Nat):Int) == 0&&(1:Int) == 1&&(bU items.size items.size hi-bU items.size 0 lo) == items.size)=true then _ else _) _ _ s;rw[if_pos hno];refine J7 ?_;unfold Builtin.Tuple.tupleIsExact;refine J7 (Kp ht.typeIs (J8 ?_));rw[if_pos ⋯];refine J7 (Kf ?_)
 first
  | exact J8 ⟨_,rfl,J8 h⟩
  | exact J7 (J8 (J8 ⟨_,rfl,J8 h⟩))
  | exact J8 (J8 ⟨_,rfl,J8 h⟩)
end
end HT
namespace L2
open PySem PySem.Spec PyProof.Rows
section
variable {X:Cx}
inductive FJ (K:Hl) (x:V) (lo:Option Int) (hi:Option Int) (H:Hp) (Q:VK):Prop
 | mk (a xs:_) (_:x=.ref a) (_:au K H a xs) (_:((HT.bU xs.length 0 lo=0/\HT.bU xs.length xs.length hi=xs.length)->Q (.ref a) H)) (_:(¬(HT.bU xs.length 0 lo=0/\HT.bU xs.length xs.length hi=xs.length)->∀p,H p=none->Q (.ref p) (upd H p (.tup (cm xs lo hi)))))
theorem gX:Eu X (FJ X.K):=by
 intro pins s Hh H x v vl vu lo hi sl Q I rx hs pl pu h;obtain⟨a,xs,rfl,hx,q1,q2⟩:=h;by_cases hw:HT.bU xs.length 0 lo=0/\HT.bU xs.length xs.length hi=xs.length
 ·cases rx;obtain⟨its,r,ht,hz⟩:=I.tuple hx;have hlen:its.toArray.size=xs.length:=by rw[HF];exact r.length.symm
  exists "tuple",_,PyProof.Rows.slot_tuple_getitem.lookup,ht.typeIs;exact HT.nV ht hs pl pu (by rw[hlen];exact hw) ⟨.ref a,H,I,rfl,q1 hw⟩
 ·exact Ew pins s Hh H (.ref a) v vl vu lo hi sl Q I rx hs pl pu ⟨a,xs,rfl,hx,hw,q2 hw⟩
end
theorem Hb {α : Type}{x y z u v:α}{xs:List α}:eY (x::y::z::u::v::xs) 4=some v:=bH (j:=4) rfl
theorem j2 {P:Program}{w:World}{x:Str}{v:Value}(h:(ba P w).is (Sum.inr x) v=true):∃t,v=.str x t:=by
 cases v with
 | str y t =>
  have:y=x:=by simpa [ba,iI,Value.isStrOf] using h
  exact⟨t,by rw[this]⟩
 | _=>simp[ba,iI,Value.isStrOf] at h
theorem pW:∀{vs:List Value} {ks:List Str},vs.length=ks.length->(∀(j:Nat) (v:Value) (x:Str),vs[j]?=some v->ks[j]?=some x->∃t,v=.str x t)->StrsAre vs ks
 | [],[],_,_=>.nil
 | v::vs,x::ks,hl,h=>by
  obtain⟨t,rfl⟩:=h 0 v x rfl rfl;exact .cons x t (pW (by simpa using hl) λ j v' x' h1 h2=>h (j+1) v' x' (by simpa using h1) (by simpa using h2))
 | [],_::_,hl,_=>by simp at hl
 | _::_,[],hl,_=>by simp at hl
section
variable {prog:Program}{w:World}{A:Around}{E:AT}{s:Shared}
open PySem.Calls PySem.W in
theorem gather {T:String}{r d:Addr}{n:Nat}{P:Nat->Value->Prop}{OK:Heap->Prop}{G:List Value->Shared->Prop}(src:KdlSrc prog w T r d n P OK)(calm:A.handled=none)(ok:OK s.heap)(bV:n<=sizeLine)
  (fin:∀(g:Heap) (tk:Nat) (got:Array Value),(∀b o,s.heap.get? b=some o->g.get? b=some o)->ItemsOf P got n->s.heap.objs.size<=g.objs.size->G got.toList { s with heap:=g,toks:=tk }) :
  wpAny (model prog w) A (collect (.ref r)) G E s:=by
 obtain⟨lt1,lt2⟩:=src.there _ ok;unfold collect;refine J7 (wpAny_runValue (Kh entry_proto_collect' ?_));rw[IJ PySem.F.plain_proto_collect _];show wpAny _ A.in1 (newList [] >>= λ z=>again (.builtin "list.__iadd__" ⟨[z,.ref r],[]⟩)) _ _ s;refine J7 (Ke (J8 ⟨plainId_quiet PySem.F.plain_list_iadd _,Kh entry_list_iadd' ?_⟩));rw[IJ PySem.F.plain_list_iadd _];show wpAny _ A.in1 (Builtin.List.listExtendWith (.ref s.heap.objs.size) (.ref r) (.ref s.heap.objs.size)) _ _ _;have made:(s.heap.push { cls:=.type "list",data:=.seq ([]:List Value).toArray }).get? s.heap.objs.size=some { cls:=.type "list",data:=.seq #[] }:=Hs _ rfl;have run:=kdl_extend (A:=A) (s:={ s with heap:=s.heap.push { cls:=.type "list",data:=.seq ([]:List Value).toArray } })
  (R:=λ (z:Result) (t:Shared)=>∃(g:Heap) (tk:Nat) (got:Array Value) (c:Nat),z=.ok (.ret (.ref s.heap.objs.size))/\t={ s with heap:=g,toks:=tk } /\
   (∀b o,s.heap.get? b=some o->g.get? b=some o)/\g.get? s.heap.objs.size=some { cls:=.type "list",dict:=none,data:=.seq got c,slots:=#[] }/\ItemsOf P got n)
  src calm (src.keep _ _ ok λ b _ o e=>Hr _ e) s.heap.objs.size (Iv lt1) (Iv lt2) (.ref s.heap.objs.size) 0 made
  (λ g tk got c kept at_ its=>⟨g,tk,got,c,rfl,rfl,λ b o e=>kept b o (Hw (Hq e)) (Hr _ e),at_,its⟩) bV
 refine J9 run (λ z t x=>?_) λ z t ⟨_,_,_,_,bad,_⟩=>by cases bad
 cases z with
 | done f =>
  obtain⟨g,tk,got,c,e,rfl,kept,at_,its⟩:=x;cases e;show wpAny _ A (load s.heap.objs.size >>= _) _ _ _;exact J7 (wpAny_load at_ (J8 (fin g tk got kept its (HZ (Hq at_)))))
 | again more =>
  refine⟨x.1,Kk x.2 λ z' t' ⟨g,tk,got,c,e1,e2,kept,at_,its⟩=>?_⟩;subst e1 e2;show wpAny _ A (load s.heap.objs.size >>= _) _ _ _;exact J7 (wpAny_load at_ (J8 (fin g tk got kept its (HZ (Hq at_)))))
theorem uZ {a:Addr}{kvs:List (Key×Value)}{ks:List Str}{Q:AT}(hh:A.handled=none)(lo:(a == sysModules)=false)(dd:s.heap.DictOf (ba prog w) a kvs)
  (hk:kvs.map (·.1)=ks.map Sum.inr) (h64:ks.length<64)
  (h:∀(h':Heap) (tk:Nat) (D:Addr) (out:Array Value) (ss':List Str) (e:Nat),(∀b o,s.heap.get? b=some o->h'.get? b=some o)->s.heap.objs.size<=D->h'.get? D=some { cls:=.type "list",data:=.seq out e } ->
   StrsAre out.toList ss'->ss'.Perm ks->sortedS ss' = true->Q (.ref D) { s with heap:=h',toks:=tk }) :
  wpAny (model prog w) A (call (.builtin "sorted") [.ref a]) Q E s:=by
 refine Calls.call_function_entry kind_sorted plain_sorted entry_sorted (args_sorted1 _) ?_;unfold Builtin.«sorted»;refine J7 (m:=checkCount "sorted" 1 1 _) (J8 ?_);obtain⟨ep,hat⟩:=dd.dictAt;have hlk:kvs.length=ks.length:=by have:=congrArg Iz hk;simpa using this
 have hs:sizeLine=16777216\/64<=sizeLine:=.inr ⋯;have hz:kvs.length<=sizeLine:=by rw[hlk];exact Hu (HZ h64) ⋯
 refine J7 (gather (A:=A.in1) (PySem.W.kdl_dict (knd:=ba prog w) (kvs:=kvs) (ep:=ep) lo) hh hat hz λ h' tk acc hkeep hacc hsz=>?_);have hl:acc.toList.length=ks.length:=by rw[Ih,hacc.1,hlk]
 have hS:StrsAre acc.toList ks:=pW hl λ j v x h1 h2=>by
  obtain⟨k,y,e1,e2⟩:=hacc.2 j v (by rw[<-Jn];exact h1);have e3:(kvs.map (·.1))[j]?=some k:=by rw[HC,e1];rfl
  rw[hk,HC,h2] at e3;cases (HB.inj e3);exact j2 e2
 refine J7 (wpAny_newList ?_ (by rw[hl];exact Hu (HZ h64) ⋯));have hoL:(h'.push (seqObj "list" acc.toList.toArray 0)).get? h'.objs.size=some (seqObj "list" acc.toList.toArray 0):=Hs _ rfl;refine J7 (Kb (Kc slot_list_sort ⟨_,hoL,rfl⟩ entry_list_sort (list_sort_treeK strKind_oneLt hoL hS.keysOf (λ v₁ v₂ rest e=>keyKind_strs (by rw[<-e];exact hS)) (by rw[hl];exact h64) λ st' a1 a2=>⟨_,rfl,?_⟩) (args_list_sort _)));obtain⟨ss',b1,b2,b3⟩:=sorted_out_str hS a1 a2;obtain⟨e,he⟩:=sortedHeap_at (out:=(arrOf st').map (·.2)) hoL;refine J8 ⟨_,rfl,h _ tk _ _ ss' e (λ b o ho=>?_) hsz he b1 b2 b3⟩;have h1:=hkeep b o ho;have hlt:=Hq h1;rw[sortedHeap_old (Hw hlt) (by rw[size_push'];exact Il hlt)];exact Hr _ h1
end
theorem rh:∀{us:List Value} {ys:List Str},StrsAre us ys->Vals (ys.map V.str) us
 | _,_,.nil=>.nil
 | _,_,.cons x t r=>.cons ⟨t,rfl⟩ (rh r)
section
variable {X:Cx}
theorem jB (hc:X.calm=true):eR X (.builtin "sorted") (λ vs H Q=>∃(a:Addr) (kvs:List (Key×V)) (ks:List Str),vs=[.ref a]/\H a=some (.dK kvs)/\kvs.map (·.1)=ks.map Sum.inr/\ks.length<64 /\
  ∀(l:Addr) (ss:List Str),ss.Perm ks->sortedS ss=true->H l=none->Q (.ref l) (upd H l (.lst (ss.map V.str)))):=by
 intro pins s Hh H xs us Q I r h;obtain⟨a,kvs,ks,rfl,ha,hk,h64,q⟩:=h;obtain⟨u,rfl,ru⟩:=vals1 r;cases (show u=Value.ref a from ru);obtain⟨z,hd,vs,rel,dd⟩:=pT I.bc ha;refine uZ (I.ok.hd hc) hd dd (by rw[<-rel.keys];exact hk) h64 λ h' tk D out ss' e hkeep hD he hS hp hs=>?_
 have hv:Vals (ss'.map V.str) out.toList:=rh hS;refine⟨.ref D,_,I.laid (t':=tk) (o:=.lst (ss'.map V.str)) hkeep hD (show b0 X.prog X.w _ h' _ (.lst (ss'.map V.str)) from ⟨?_,out.toList,e,hv,by simpa using he⟩),rfl,q D ss' hp hs (I.bc.fresh hD)⟩;rw[Hk,hp.length_eq];exact Hu (HZ h64) ⋯
end
theorem u9 {kvs:List (Key×V)}{k:Key}{v:V}(nd:(kvs.map (·.1)).Nodup)(h:(k,v)∈kvs):cw kvs k=some v:=by
 induction kvs with
 | nil=>cases h
 | cons p r ih =>
  obtain⟨k',v'⟩:=p;rw[HN,ID] at nd
  rcases Ho.mp h with e | h
  ·cases e;simp[cw]
  ·have hne:¬k' = k:=λ z=>nd.1 (by rw[z];exact HE.mpr ⟨(k,v),h,rfl⟩)
   have:=ih nd.2 h;simp[cw,hne] at this ⊢;exact this
section
variable {X:Cx}
end
theorem sub_len {α : Type}[DecidableEq α]:∀{l m:List α},l.Nodup->(∀x∈l,x∈m)->l.length<=m.length
 | [],_,_,_=>HL _
 | x::l,m,nd,h=>by
  rw[ID] at nd;have hx:=h x (Hv ..);have h1:=sub_len (l:=l) (m:=m.erase x) nd.2 λ y hy=>(List.mem_erase_of_ne (λ z=>nd.1 (by rw[<-z];exact hy))).mpr (h y (Hx _ hy))
  rw[List.length_erase_of_mem hx] at h1;have h2:0<m.length:=List.length_pos_of_mem hx;show l.length+1<=m.length;omega
theorem gY:bootBuiltins "sorted" = some (.builtin "sorted"):=PyProof.Rows.boot_sorted
theorem zD {kvs:List (Key×V)}{k:Key}{v:V}:(putK kvs k v).map (·.1)=kvs.map (·.1)/\k∈kvs.map (·.1)\/(putK kvs k v).map (·.1)=kvs.map (·.1)++[k]/\¬k∈kvs.map (·.1):=by
 unfold putK;by_cases h:(kvs.any λ kv=>decide (kv.1=k))=true
 ·rw[if_pos h];refine .inl ⟨?_,?_⟩
  ·rw[IU];refine JM λ p _=>?_
   show (if p.1=k then (p.1,v) else p).1=p.1;split<;>rfl
  ·obtain⟨p,hp,he⟩:=List.any_eq_true.mp h;exact HE.mpr ⟨p,hp,of_decide_eq_true he⟩
 ·rw[if_neg h];refine .inr ⟨by rw[HA];rfl,λ hm=>h ?_⟩;obtain⟨p,hp,he⟩:=HE.mp hm;exact List.any_eq_true.mpr ⟨p,hp,decide_eq_true he⟩
def pX:cH->Str
 | .put x _=>x
 | .copy x _=>x
 | .add x _=>x
 | .read x=>x
 | .tell x=>x
theorem Bo (dd:cH):eY (uv dd) 1=some (.str (pX dd)):=by cases dd<;>exact cB
theorem fz.name {xs:List Str}{dd:cH}(h:fz xs dd):pX dd∈xs:=by
 cases dd with
 | put x n=>exact h.1
 | copy x y=>exact h.1
 | add x n=>exact h.1
 | read x=>exact h
 | tell x=>exact h
theorem cy.put {H:Hp}{b p:Addr}{o:HO}(h:cy H b)(n:b≠p):cy (upd H p o) b:=by
 obtain⟨x,y,e,z⟩:=h;exact⟨x,y,by rw[av n];exact e,z⟩
section
variable {X:Cx}
end
section
variable {a0 a1 z:V}
end
section
variable {C D:Addr}{H H':Hp}{wp p pl d nl sl:Addr}{plv:V}{nums:List Int}{S:RS}{m:Nat}
end
section
variable (C D:Addr)
end
section
variable {C D:Addr}{H H':Hp}{wp p pl d nl sl st d2 tl bl np:Addr}{plv:V}{nums nums':List Int}{S S':RS}{m m':Nat}
end
section
variable (C D:Addr)
end
section
variable {C D:Addr}{H0 H H1 H2:Hp}{wp p pl d nl sl st st' d2 tl bl np b:Addr}{plv:V}{nums more:List Int}{S S':RS}{m m':Nat}
end
section
variable {X:Cx}
inductive FK  (x:V) (y:V) (H:Hp) (Q:VK):Prop
 | mk (a b xs ys:_) (_:x=.ref a) (_:y=.ref b) (_:H a=some (.tup xs)) (_:H b=some (.tup ys)) (_:xs.length+ys.length<=sizeLine) (_:∀t H',H' t=some (.tup (xs++ys))->ah H H'->Q (.ref t) H')
theorem kG:eJ X (binaryOp .Add) FK:=by
 intro pins s Hh H x y v u Q I rx ry h;obtain⟨a,b,xs,ys,rfl,rfl,ha,hb,hz,q⟩:=h;cases rx;cases ry;obtain⟨its,r1,p1,_⟩:=I.tuple (au.of ha);obtain⟨its2,r2,p2,_⟩:=I.tuple (au.of hb);by_cases hx:xs=[]
 ·subst hx;have hi:its=[]:=r1.qR.mpr rfl;subst hi;obtain⟨⟨cls,dd,data,sl⟩,ho,hc,n,hd⟩:=id p1;obtain⟨⟨cls2,dd2,data2,sl2⟩,ho2,hc2,n2,hd2⟩:=id p2;simp only at hc hd hc2 hd2;subst hc hd hc2 hd2;exact concat_meets ⟨_,ho,rfl⟩ ⟨_,ho2,rfl⟩ noFill_tuple_add seq_tuple_add PySem.F.slot_tuple_add PySem.F.entry_tuple_add (PySem.F.args_tuple_add_2 _ _)
   (tuple_addW0 a b [].toArray its2.toArray n n2 dd dd2 sl sl2 (by simp)) ⟨ho,ho2,⟨.ref b,H,I,rfl,q b H hb (ah.refl H)⟩⟩
 ·refine HT.De p1 p2 (λ z=>hx (r1.qR.mp z)) (λ z=>⟨.ref a,H,I,rfl,q a H (by rw[r2.qR.mp z,IX];exact ha) (ah.refl H)⟩) (λ z=>?_) (by rw[<-r1.length,<-r2.length];exact hz);have fr:=I.bc.fresh (a:=s.heap.objs.size) (Hn _);refine⟨.ref s.heap.objs.size,_,I.laid (t':=s.toks) (o:=.tup (xs++ys)) (λ b ob q=>Hr _ q) (Hn _) ?_,rfl,q _ _ af (ah.new fr)⟩;exact⟨by rw[Ht];exact hz,_,r1.append r2,⟨_,Hs _ rfl,rfl,_,rfl,rfl⟩⟩
end
section
variable {ps:List Piece}{nums more:List Int}{S S0:RS}{m n:Nat}
end
section
variable {ps:List Piece}{nums more:List Int}{S:RS}{m n:Nat}
end
inductive Call where
 | hand (ns:List Int)
 | go (n:Nat)
structure E1 where
 S:RS
 nums:List Int
 m:Nat
structure WA where
 wp:Addr
 p:Addr
 pl:Addr
 d:Addr
 nl:Addr
 sl:Addr
section
variable {C D:Addr}{H H' H0:Hp}{x y:WA}{pv pv':V}{s s':E1}{c:Addr}{o:HO}
end
section
variable (C D:Addr)
end
section
variable {C D:Addr}{H0 H H1:Hp}{w0 w1 w2:WA}{wl cl nb:Addr}{plv ov:V}{x0 x1 x2 x':E1}{n0 n1 n':List Int}{vs:List V}{cs:List Call}
end
structure Bp (K:Hl) (mg:Ch) (nm:Str) (a:Addr) (D:List (Str×Addr)):Prop where
 pY:mg nm=some (.ref a)
 lk:∃es ep,K.lookup a=some ⟨.type "dict",none,.dict es ep,#[]⟩/\KTD.Rows (λ d v=>v=Value.ref d) es.toList D
section
variable {prog:Program}{w:World}{A:Around}{E:AT}{s:Shared}
theorem Bq {a d:Addr}{o:Obj}{es:Array DictEntry}{ep:Nat}{k:Str}{t:Tok}{D:List (Str×Addr)}{Q:Option Value->Shared->Prop}(ho:s.heap.get? a=some o)(hd:o.data=.dict es ep)
  (hr:KTD.Rows (λ d v=>v=Value.ref d) es.toList D) (ha:KTD.datumAt k D=some d) (q:Q (some (.ref d)) { s with toks:=s.toks+1 }):wpAny (model prog w) A (dictGet a (.str k t)) Q E s:=by
 unfold dictGet
 try with_reducible refine Kb ?_
 refine J7 (KD (J7 (KTD.kt_dictFind_strs (s:={ s with toks:=s.toks+1 }) ho hd (by have:=hr.exact;obtain⟨l⟩:=es;simpa using this) ?_)));have hq:Q (findBy (λ k v=>v.isStr k) es k) { s with toks:=s.toks+1 }:=by
  obtain⟨v,hv,rfl⟩:=hr.find_some ha;have e:findBy (λ k v=>v.isStr k) es k=some (.ref d):=by
   rw[<-hv];obtain⟨l⟩:=es;simp[findBy]
  rw[e];exact q
 rw[findBy_of_findIdx?] at hq;cases hi:es.findIdx? λ e=>e.key.isStr k with
 | some i=>rw[hi] at hq;exact J7 (wpAny_dictEntries (s:={ s with toks:=s.toks+1 }) ho hd (J8 hq))
 | none=>rw[hi] at hq;exact J8 hq
theorem Br {a d:Addr} {o:Obj} {es:Array DictEntry} {ep:Nat} {k:Str} {t:Tok} {D:List (Str×Addr)} {Q:AT} (ty:s.TypeIs (.ref a) "dict") (ho:s.heap.get? a=some o) (hd:o.data=.dict es ep)
  (hr:KTD.Rows (λ d v=>v=Value.ref d) es.toList D) (ha:KTD.datumAt k D=some d) (q:Q (.ref d) { s with toks:=s.toks+1 }):wpAny (model prog w) A (getItem (.ref a) (.str k t)) Q E s:=by
 unfold getItem
 try with_reducible refine Kb ?_
 refine J7 (KH ty ⋯ (J7 (wpAny_callSpecial?_slot (name:=Str.ofString "__getitem__") ty slot_dict_getitem (Kc slot_dict_getitem ty entry_dict_getitem ?_ (args_dict_getitem _ _)))));show wpAny _ _ (dictGet a (.str k t) >>= λ _=>_) _ _ s;exact J7 (Bq ho hd hr ha (J8 ⟨_,rfl,J8 q⟩))
end
section
variable {X:Cx}
theorem rm {nm:Str} {a:Addr} {D:List (Str×Addr)} {i:Expr} {p pos:Pos} {ty:TE} (G:Bp X.K X.mg nm a D) (hg:Gl X nm) (hi:PE X i ty) (hs:yf i) (hdb:(nm == ("__debug__" : Str))=false:=by decide) :
  PE X (.Subscript (.Name nm p) i pos) (λ Hh H Q=>ty Hh H λ y H1=>∃x d,y=.str x/\KTD.datumAt x D=some d/\Q (.ref d) H1):=by
 intro pins s Hh H Q I h;obtain⟨es,ep,hk,hr⟩:=G.lk;refine q9 PySem.F.slot_dict_getitem.lookup hs (bx (gm (v:=.ref a) hg G.pY rfl hdb pins s Hh H (λ x H1=>x=.ref a/\ty Hh H1 λ y H1=>∃x d,y=.str x/\KTD.datumAt x D=some d/\Q (.ref d) H1) I ⟨rfl,h⟩) λ u s1 ⟨x,H1,I1,rx,ex,q1⟩=>?_);subst ex;obtain rfl:u=Value.ref a:=rx;refine bx (hi pins s1 Hh H1 _ I1 q1) λ iv s2 ⟨y,H2,I2,ry,k,d,ey,hd,q2⟩=>?_
 subst ey;obtain⟨t,rfl⟩:=(show ∃t,iv=Value.str k t from ry);have ho:=I2.ft a _ hk;exact⟨⟨_,ho,rfl⟩,Br ⟨_,ho,rfl⟩ ho rfl hr hd ⟨.ref d,H2,I2.tok _,rfl,q2⟩⟩
end
def pick (w:Str)(xs:List V)(ks:List Str):List V:=((xs.zip ks).filter λ p=>decide (p.2=w)).map (·.1)
def jW (w:Str)(xs:List V)(ks:List Str)(i:Nat):List V:=(((xs.zip ks).take i).filter λ p=>decide (p.2=w)).map (·.1)
theorem yj {w:Str}{xs:List V}{ks:List Str}{i:Nat}{x:V}{k:Str}(hx:xs[i]?=some x)(hk:ks[i]?=some k):jW w xs ks (i+1)=jW w xs ks i++(if k=w then [x] else []):=by
 have hz:(xs.zip ks)[i]?=some (x,k):=by rw[List.getElem?_zip_eq_some];exact⟨hx,hk⟩
 unfold jW;rw[HM,hz,JN,HA]
 congr 1
 by_cases h:k=w
 ·rw[if_pos h];simp[h]
 ·rw[if_neg h];simp[h]
theorem zE {w:Str}{xs:List V}{ks:List Str}:jW w xs ks (min xs.length (ks.map V.str).length)=pick w xs ks:=by
 unfold jW pick;rw[Hk,Jr (by rw[List.length_zip];exact Hn _)]
theorem zF {w:Str}{xs:List V}{ks:List Str}{i:Nat}:(jW w xs ks i).length<=i:=by
 unfold jW;rw[Hk];exact Hu (II ..) (by rw[HP];exact JO ..)
theorem au.same {K:Hl}{H H':Hp}{a:Addr}{xs:List V}(h:au K H a xs)(s:ah H H'):au K H' a xs:=by
 rcases h with h | h
 ·rcases h with h | h
  ·exact .inl (.inl (s _ _ h))
  ·obtain⟨b,hb⟩:=h;exact .inl (.inr ⟨b,s _ _ hb⟩)
 ·exact .inr h
inductive rn (K:Hl) (vs:List V) (H:Hp) (Q:VK) (_:XK):Prop
 | mk (t s:Addr) (v0:V) (xs:List V) (ks:List Str) (w:Str) (_:vs=[.ref t,.ref s,.str w]) (_:H t=some (.tup (v0::xs))) (_:au K H s (ks.map V.str)) (_:xs.length<=1000) (_:∀l H',H' l=some (.lst (pick w xs ks))->ah H H'->Q (.ref l) H')
def KTup (K:Hl)(a:Addr)(ks:List Str):Prop:=∃(o:Obj) (its:Array Value) (n:Nat),K.lookup a=some o/\o.cls=.type "tuple" /\ o.data=.seq its n/\its.size<=sizeLine/\Vals (ks.map V.str) its.toList
structure va (K:Hl) (mg:Ch) (aE s0 s1 s2 s3:Addr):Prop where
 tab:Bp K mg "END_PARTS" aE [("stop",s0),("go",s1),("less",s2),("is",s3)]
 q0:KTup K s0 []
 q1:KTup K s1 ["piece"]
 q2:KTup K s2 ["name", "number", "piece", "piece"]
 q3:KTup K s3 ["name", "number", "piece", "piece"]
def aU:End->List Nat
 | .stop=>[]
 | .go p=>[p]
 | .aR _ _ _ p q=>[p,q]
def kE:End->List Str
 | .stop=>[]
 | .go _=>["piece"]
 | .aR ..=>["name", "number", "piece", "piece"]
def wE:End->Str
 | .stop => "stop"
 | .go _ => "go"
 | .aR b ..=>wT b
theorem zG (e:End):∃xs,bR e=.str (wE e)::xs/\xs.length<=1000/\pick "piece" xs (kE e)=(aU e).map λ k=>V.int (k:Nat):=by
 cases e with
 | stop=>exact⟨[],rfl,by decide,rfl⟩
 | go p=>exact⟨_,rfl,by show 1<=1000;decide,by simp[pick,kE,aU]⟩
 | aR b x n p q =>
  refine⟨_,rfl,by show 4<=1000;decide,?_⟩;have h1:¬("name" : Str) = "piece" := by decide
  have h2:¬("number" : Str) = "piece" := by decide
  simp[pick,kE,aU,h1,h2]
theorem va.at_ {K:Hl} {mg:Ch} {aE s0 s1 s2 s3:Addr} (G:va K mg aE s0 s1 s2 s3) (e:End):∃s,KTD.datumAt (wE e) [(("stop" : Str),s0),("go",s1),("less",s2),("is",s3)]=some s/\KTup K s (kE e):=by
 have hit:∀{k:Str} {d:Addr} {D:List (Str×Addr)},KTD.datumAt k ((k,d)::D)=some d:=λ {k d D}=>by
  show (if decide (k=k)=true then some d else KTD.datumAt k D)=some d;rw[if_pos (decide_eq_true rfl)]
 have miss:∀{k x:Str} {d:Addr} {D:List (Str×Addr)} {o:Option Addr},¬k=x->KTD.datumAt k D=o->KTD.datumAt k ((x,d)::D)=o:=λ {k x d D o} h e=>by
  show (if decide (k=x)=true then some d else KTD.datumAt k D)=o;rw[if_neg (by rw[decide_eq_false h];decide)];exact e
 cases e with
 | stop=>exact⟨s0,hit,G.q0⟩
 | go p=>exact⟨s1,miss (show ¬(("go" : Str) = "stop") by decide) hit,G.q1⟩
 | aR b x n p q =>
  cases b with
  | true=>exact⟨s2,miss (show ¬(("less" : Str) = "stop") by decide) (miss (show ¬(("less" : Str) = "go") by decide) hit),G.q2⟩
  | false=>exact⟨s3,miss (show ¬(("is" : Str) = "stop") by decide) (miss (show ¬(("is" : Str) = "go") by decide) (miss (show ¬(("is" : Str) = "less") by decide) hit)),G.q3⟩
inductive jC  (vs:List V) (H:Hp) (Q:VK) (_:XK):Prop
 | mk (ea:Addr) (e:End) (_:vs=[.ref ea]) (_:H ea=some (.tup (bR e))) (_:∀t H',H' t=some (.tup ((aU e).map λ k=>V.int (k:Nat)))->ah H H'->Q (.ref t) H')
end L2
namespace LS
open PySem
def Up (xs:Array Nat):Prop:=∀(i j:Nat) (a b:Nat),i<j->xs[i]?=some a->xs[j]?=some b->a<b
theorem Bs {xs:Array Nat}{j:Nat}(up:Up xs):∀(fuel lo hi:Nat),hi-lo<=fuel->lo<=hi->hi<=xs.size ->
  (∀i a,i<lo->xs[i]?=some a->a<j)->(∀i a,hi<=i->xs[i]?=some a->j<=a) ->
  (∀i a,i<SetTable.below.go xs j fuel lo hi->xs[i]?=some a->a<j)/\(∀i a,SetTable.below.go xs j fuel lo hi<=i->xs[i]?=some a->j<=a)/\SetTable.below.go xs j fuel lo hi<=xs.size:=by
 intro fuel
 induction fuel with
 | zero =>
  intro lo hi h1 h2 h3 h4 h5;have e:lo=hi:=by omega
  subst e;unfold SetTable.below.go;exact⟨h4,h5,h3⟩
 | succ f ih =>
  intro lo hi h1 h2 h3 h4 h5;unfold SetTable.below.go;by_cases hl:lo<hi
  ·rw[if_pos hl];dsimp only;have hm:(lo+hi) / 2<hi:=by omega
   have hm2:lo<=(lo+hi) / 2:=by omega
   generalize (lo+hi) / 2=mid at hm hm2;have hs:mid<xs.size:=by omega
   have hg:xs[mid]?=some xs[mid]:=by simp[hs]
   have hd:xs.getD mid j=xs[mid]:=by simp[Array.getD,hs]
   rw[hd];by_cases hc:xs[mid]<j
   ·rw[if_pos hc];refine ih (mid+1) hi ⋯ ⋯ h3 (λ i a hi' he=>?_) h5;by_cases e:i=mid
    ·subst e;rw[hg] at he;cases he;exact hc
    ·have:=up i mid a _ ⋯ he hg;omega
   ·rw[if_neg hc];refine ih lo mid ⋯ hm2 ⋯ h4 (λ i a hi' he=>?_);by_cases e:i=mid
    ·subst e;rw[hg] at he;cases he;omega
    ·have:=up mid i _ a ⋯ hg he;omega
  ·rw[if_neg hl];have e:lo=hi:=by omega
   subst e;exact⟨h4,h5,h3⟩
theorem o1 {xs:Array Nat}{j:Nat}(up:Up xs) :
    (∀i a,i<SetTable.below xs j->xs[i]?=some a->a<j)/\(∀i a,SetTable.below xs j<=i->xs[i]?=some a->j<=a)/\SetTable.below xs j<=xs.size :=
  Bs up xs.size 0 xs.size ⋯ (HL _) (Hn _) (λ _ _ h=>absurd h (Jc _)) (λ i a h e=>by
    have:xs[i]?=none:=by simp;omega
    rw[this] at e;cases e)
theorem vb {α : Type}{xs:Array α}{p:Nat}{x:α}(hp:p<=xs.size)(i:Nat) :
  (SetTable.insertAt xs p x)[i]?=if i<p then xs[i]? else if i=p then some x else xs[i-1]?:=by
 unfold SetTable.insertAt;have h1:(xs.extract 0 p).size=p:=by simp;omega
 rw[Array.getElem?_append];have h2:((xs.extract 0 p).push x).size=p+1:=by simp;omega
 rw[h2];by_cases a:i<p
 ·rw[if_pos ⋯,if_pos a,Array.getElem?_push,h1,if_neg ⋯];rw[Array.getElem?_extract];simp;omega
 ·rw[if_neg a];by_cases b:i=p
  ·subst b;rw[if_pos ⋯,if_pos rfl,Array.getElem?_push,h1,if_pos rfl]
  ·rw[if_neg ⋯,if_neg b];rw[Array.getElem?_extract];have:p+(i-(p+1))=i-1:=by omega
   rw[this];by_cases c:i-1<xs.size
   ·simp;omega
   ·have:xs[i-1]?=none:=by simp;omega
    rw[this];simp
theorem Up.insert {xs:Array Nat}{j:Nat}(up:Up xs)(hn:xs[SetTable.below xs j]?≠some j):Up (SetTable.insertAt xs (SetTable.below xs j) j):=by
 obtain⟨h1,h2,h3⟩:=o1 (j:=j) up;generalize SetTable.below xs j=p at h1 h2 h3 hn;have h2':∀i a,p<=i->xs[i]?=some a->j<a:=λ i a hi e=>by
  have q:=h2 i a hi e;by_cases z:i=p
  ·subst z
   rcases Nat.lt_or_ge j a with c | c
   ·exact c
   ·have:a=j:=by omega
    subst this;exact absurd e hn
  ·have hps:p<xs.size:=by
    have:i<xs.size:=by
     rcases Nat.lt_or_ge i xs.size with c | c
     ·exact c
     ·have:xs[i]?=none:=by simp;omega
      rw[this] at e;cases e
    omega
   have e1:xs[p]?=some xs[p]:=by simp[hps]
   have q1:=h2 p _ (Hn _) e1;have q2:=up p i _ _ ⋯ e1 e;omega
 intro a b x y hab ha hb;rw[vb h3] at ha hb;by_cases c1:a<p
 ·rw[if_pos c1] at ha;by_cases d1:b<p
  ·rw[if_pos d1] at hb;exact up a b _ _ hab ha hb
  ·rw[if_neg d1] at hb;by_cases d2:b=p
   ·rw[if_pos d2] at hb;cases hb;exact h1 a _ c1 ha
   ·rw[if_neg d2] at hb;exact JL (h1 a _ c1 ha) (h2' (b-1) _ ⋯ hb)
 ·rw[if_neg c1] at ha;by_cases c2:a=p
  ·rw[if_pos c2] at ha;cases ha;rw[if_neg ⋯,if_neg ⋯] at hb;exact h2' (b-1) _ ⋯ hb
  ·rw[if_neg c2] at ha;rw[if_neg ⋯,if_neg ⋯] at hb;exact up (a-1) (b-1) _ _ ⋯ ha hb
def Rp (t:SetTable):Prop:=t.plain=true->Up t.place
theorem Bt {t:SetTable}{f:Nat->Int}{h:Int}:∀(fuel:Nat) (p:SetTable.Probe) (j:Nat) (d:Option Nat),(∀x,p.dummy=some x->t.place[SetTable.below t.place x]?≠some x) ->
  SetTable.probe.go t f h fuel p=some (.empty j d)->t.place[SetTable.below t.place (d.getD j)]?≠some (d.getD j):=by
 intro fuel
 induction fuel with
 | zero=>intro p j d _ e;unfold SetTable.probe.go at e;cases e
 | succ n ih =>
  intro p j d hd e;unfold SetTable.probe.go at e;have adv:∀q:SetTable.Probe,(t.advance q).dummy=q.dummy:=λ q=>by unfold SetTable.advance;split<;>rfl
  cases hs:t.slot p.j with
  | empty =>
   rw[hs] at e;dsimp only at e;injection e with e
   injection e with e1 e2
   subst e1;subst e2;unfold SetTable.slot at hs;dsimp only at hs;split at hs
   ·cases hs
   ·rename_i hne
    cases hdm:p.dummy with
    | none=>intro z;exact hne (by rw[show (none:Option Nat).getD p.j=p.j from rfl] at z;simpa using z)
    | some x=>exact hd x hdm
  | dummy =>
   rw[hs] at e;dsimp only at e;refine ih _ j d (λ x hx=>?_) e;rw[adv] at hx;injection hx with hx
   subst hx;unfold SetTable.slot at hs;dsimp only at hs;split at hs
   ·cases hs
   ·rename_i hne
    intro z;exact hne (by simpa using z)
  | live i =>
   rw[hs] at e;dsimp only at e;split at e
   ·cases e
   ·exact ih _ j d (λ x hx=>hd x (by rw[adv] at hx;exact hx)) e
theorem vc {t:SetTable}{h:Int}{j:Nat}{b:Bool}(e:t.freeSlot h=some (j,b)):t.place[SetTable.below t.place j]?≠some j:=by
 unfold SetTable.freeSlot at e;split at e
 ·rename_i j' d hp
  injection e with e
  injection e with e1 e2
  subst e1;unfold SetTable.probe at hp;exact Bt _ _ _ _ (λ x hx=>by cases hx) hp
 ·cases e
theorem Rp.standIn (t:SetTable)(n:Nat):Rp (t.standIn n):=λ h=>by cases h
theorem Rp.layNew {t:SetTable}(r:Rp t)(es:Array (Int×Value))(h:Int)(x:Value):Rp (layNew t es h x).2.1/\(layNew t es h x).2.1.led=t.led:=by
 unfold PySem.layNew;split
 ·rename_i j b e
  dsimp only;unfold SetTable.orStandIn;split
  ·refine⟨λ hp=>?_,rfl⟩;exact (r hp).insert (vc e)
  ·exact⟨Rp.standIn _ _,rfl⟩
 ·exact⟨Rp.standIn _ _,rfl⟩
theorem Bu (n:Nat)(f:Nat->Option Nat):Up (((HY n).filterMap λ j=>(f j).map λ k=>(j,k)).map (·.1)).toArray:=by
 have hs:IF (· < ·) (((HY n).filterMap λ j=>(f j).map λ k=>(j,k)).map (·.1)):=by
  have hl:List.Sublist (((HY n).filterMap λ j=>(f j).map λ k=>(j,k)).map (·.1)) (HY n):=by
   generalize HY n=l
   induction l with
   | nil=>exact List.Sublist.refl _
   | cons a l ih =>
    rw[Jg];cases e:f a with
    | none=>exact ih.cons a
    | some k=>exact ih.cons₂ a
  exact IF.sublist hl List.pairwise_lt_range
 intro i j a b hij ha hb;rw[List.getElem?_toArray] at ha hb;have hi:i<_:=(HD.mp ha).1;have hj:j<_:=(HD.mp hb).1;have:=List.pairwise_iff_getElem.mp hs i j hi hj hij;rw[(HD.mp ha).2,(HD.mp hb).2] at this;exact this
theorem Rp.relayAll (t:SetTable)(es:Array (Int×Value))(n:Nat):Rp (relayAll t es n).2.1/\(relayAll t es n).2.1.led=t.led:=by
 unfold PySem.relayAll;split
 ·rename_i t' order e
  dsimp only;split
  ·unfold SetTable.relaid SetTable.laid at e;simp only[bind,Option.bind] at e;split at e
   ·cases e
   ·rename_i owner _
    injection e with e
    injection e with e1 _
    subst e1;exact⟨λ _=>Bu _ _,rfl⟩
  ·exact⟨Rp.standIn _ _,rfl⟩
 ·exact⟨Rp.standIn _ _,rfl⟩
theorem yk {xs:Array Nat}(up:Up xs){i a:Nat}(e:xs[i]?=some a):SetTable.below xs (a+1)=i+1:=by
 obtain⟨h1,h2,h3⟩:=o1 (j:=a+1) up;have hi:i<xs.size:=(Array.getElem?_eq_some_iff.mp e).1
 rcases Nat.lt_trichotomy (SetTable.below xs (a+1)) (i+1) with c | c | c
 ·have:=h2 i a ⋯ e;omega
 ·exact c
 ·have hs:i+1<xs.size:=by omega
  have e':xs[i+1]?=some xs[i+1]:=by simp[hs]
  have q1:=h1 (i+1) _ c e';have q2:=up i (i+1) _ _ ⋯ e e';omega
theorem yl {xs:Array Nat}(up:Up xs):SetTable.below xs 0=0:=by
 obtain⟨h1,h2,h3⟩:=o1 (j:=0) up
 rcases Nat.eq_zero_or_pos (SetTable.below xs 0) with c | c
 ·exact c
 ·have e':xs[0]?=some xs[0]:=by simp
  have:=h1 0 _ c e';omega
theorem Up.bV {xs:Array Nat}(h:xs.size<=1):Up xs:=λ i j a b hij ha hb=>by
 have:=(Array.getElem?_eq_some_iff.mp hb).1;omega
open PySem.Spec PyProof.Rows
section
variable {prog:Program}{w:World}{K:Type}[DecidableEq K]{knd:KeyKind prog w K}
variable {A:Around}{E:AT}{s:Shared}
def Ent (knd:KeyKind prog w K)(e:Int×Value)(k:K):Prop:=knd.is k e.2=true/\e.1=knd.hash k/\e.2.scannable=true
structure dN (knd:KeyKind prog w K) (h:Heap) (a:Addr) (ks:List K) (o:Obj) (es:Array (Int×Value)) (ep:Nat) (t:SetTable):Prop where
 at_:h.get? a=some o
 ex:o.ExactSet
 data:o.data=.set es ep t
 ents:∃ls:List K,ls.Perm ks/\Paired (Ent knd) es.toList ls
 nd:ks.Nodup
 bV:es.size<scanBound
 fits:t.fits es.size=true
 led:t.led = !(w.params.followText "set-order")
 up:Rp t
def e7 (knd:KeyKind prog w K)(h:Heap)(a:Addr)(ks:List K):Prop:=∃o es ep t,dN knd h a ks o es ep t
theorem j3 {α β : Type}{F:α->β->Prop}:∀{l l':List α},l.Perm l'->∀{m':List β},Paired F l' m'->∃m,m.Perm m'/\Paired F l m:=by
 intro l l' p
 induction p with
 | nil=>intro m' h;exact⟨m',.refl _,h⟩
 | cons x p ih =>
  intro m' h;cases h with
  | cons r t=>obtain⟨m,q,e⟩:=ih t;exact⟨_,q.cons _,.cons r e⟩
 | swap x y l =>
  intro m' h;cases h with
  | cons r t=>cases t with
   | cons r' t'=>exact⟨_,.swap _ _ _,.cons r' (.cons r t')⟩
 | trans p q ih1 ih2 =>
  intro m' h;obtain⟨m1,a1,b1⟩:=ih2 h;obtain⟨m2,a2,b2⟩:=ih1 b1;exact⟨m2,a2.trans a1,b2⟩
theorem ja {α β : Type}{F:α->β->Prop}:∀{l:List α} {m:List β},Paired F l m->(∀x∈l,∃y∈m,F x y)/\(∀y∈m,∃x∈l,F x y)
 | _,_,.nil=>⟨(λ _ h=>nomatch h),(λ _ h=>nomatch h)⟩
 | _,_,.cons r t=>by
  obtain⟨h1,h2⟩:=ja t;refine⟨λ x hx=>?_,λ y hy=>?_⟩
  ·rcases Ho.mp hx with rfl | hx
   ·exact⟨_,Hv ..,r⟩
   ·obtain⟨y,hy,f⟩:=h1 x hx;exact⟨y,Hx _ hy,f⟩
  ·rcases Ho.mp hy with rfl | hy
   ·exact⟨_,Hv ..,r⟩
   ·obtain⟨x,hx,f⟩:=h2 y hy;exact⟨x,Hx _ hx,f⟩
theorem ow {α β : Type}{F:α->β->Prop}{x:α}{y:β}(f:F x y):∀{l:List α} {m:List β},Paired F l m->Paired F (l++[x]) (m++[y])
 | _,_,.nil=>.cons f .nil
 | _,_,.cons r t=>.cons r (ow f t)
variable {a:Addr}{ks:List K}{o:Obj}{es:Array (Int×Value)}{ep:Nat}{t:SetTable}{h h':Heap}
theorem dN.elems (S:dN knd h a ks o es ep t):ElemsOf knd es.toList:=λ e he=>by
 obtain⟨ls,_,p⟩:=S.ents;obtain⟨k,_,f⟩:=(ja p).1 e he;exact⟨⟨k,f.1,f.2.1⟩,f.2.2⟩
theorem dN.len (S:dN knd h a ks o es ep t):es.size=ks.length:=by
 obtain⟨ls,q,p⟩:=S.ents;rw[<-Ih,p.length,q.length_eq]
theorem dN.mem (S:dN knd h a ks o es ep t)(k:K):k∈ks↔∃e∈es.toList,knd.is k e.2=true:=by
 obtain⟨ls,q,p⟩:=S.ents;rw[<-q.mem_iff]
 constructor
 ·intro hk;obtain⟨e,he,f⟩:=(ja p).2 k hk;exact⟨e,he,f.1⟩
 ·rintro⟨e,he,f⟩;obtain⟨k',hk',f'⟩:=(ja p).1 e he;rw[knd.inj e.2 k k' f f'.1];exact hk'
theorem dN.setOf (S:dN knd h a ks o es ep t):h.SetOf knd a (λ k=>decide (k∈ks)) ks.length :=
 ⟨o,es,ep,t,S.at_,S.ex,S.data,S.elems,λ k=>by rw[decide_eq_true_eq];exact S.mem k,S.bV,S.fits,S.len⟩
theorem dN.keep (S:dN knd h a ks o es ep t)(k:∀o,h.get? a=some o->h'.get? a=some o):dN knd h' a ks o es ep t:={ S with at_:=k _ S.at_ }
theorem e7.keep (S:e7 knd h a ks)(k:∀o,h.get? a=some o->h'.get? a=some o):e7 knd h' a ks:=let ⟨o,es,ep,t,S⟩:=S;⟨o,es,ep,t,S.keep k⟩
theorem e7.setOf (S:e7 knd h a ks):h.SetOf knd a (λ k=>decide (k∈ks)) ks.length:=let ⟨_,_,_,_,S⟩:=S;S.setOf
theorem vd {o:Obj}{es es':Array (Int×Value)}{ep:Nat}{t t':SetTable}(hd:o.data=.set es ep t):Obj.putSet es' t' o={ o with data:=.set es' (ep+1) t' }:=putSet_of es' t' hd
theorem dN.store {es':Array (Int×Value)}{t':SetTable}{ks':List K}(S:dN knd h a ks o es ep t)(he:∃ls:List K,ls.Perm ks'/\Paired (Ent knd) es'.toList ls)(nd:ks'.Nodup)(bV:es'.size<scanBound)
  (fits:t'.fits es'.size=true) (led:t'.led=t.led) (up:Rp t'):dN knd (h.update a (Obj.putSet es' t')) a ks' { o with data:=.set es' (ep+1) t' } es' (ep+1) t' where
 at_:=by
  have q:=IA (Obj.putSet es' t') S.at_ (by rw[vd S.data];rfl);rw[vd S.data] at q;exact q
 ex:=S.ex
 data:=rfl
 ents:=he
 nd:=nd
 bV:=bV
 fits:=fits
 led:=led.trans S.led
 up:=up
theorem o2 {g:Bool->Sem Unit}(hg:∀(b:Bool) (s₁ : Shared) (Q':Unit->Shared->Prop),Q' () s₁->wpAny (model prog w) A (g b) Q' E s₁){es1:Array (Int×Value)}{t2:SetTable}{ks':List K}
  (S:dN knd s.heap a ks o es ep t) (he:∃ls:List K,ls.Perm ks'/\Paired (Ent knd) es1.toList ls) (nd:ks'.Nodup) (bV:es1.size<scanBound) (fits:t2.fits es1.size=true) (led:t2.led=t.led) (up:Rp t2) {wd:Bool}
  {R:Option Bool->Shared->Prop} (q:∀h',HR a s.heap h'->e7 knd h' a ks'->R (some true) { s with heap:=h' }) :
  wpAny (model prog w) A (storeSet a es1 t2 >>= λ _=>if (!wd&&t2.tooFull)=true then g (relayAll t2 es1 (SetTable.grown es1.size)).2.2 >>= λ _ =>
   storeSet a (relayAll t2 es1 (SetTable.grown es1.size)).1 (relayAll t2 es1 (SetTable.grown es1.size)).2.1 >>= λ _=>pure (some true) else pure (some true)) R E s:=by
 refine J7 (wpAny_storeSet_of S.at_ S.data ?_ (fits_of_scanBound bV));have S1:=S.store he nd bV fits led up;have b1:=HR.update s.heap a (Obj.putSet es1 t2);by_cases hc:(!wd&&t2.tooFull)=true
 ·rw[if_pos hc];have p1:=relayAll_perm t2 es1 (SetTable.grown es1.size);have p2:=relayAll_fits t2 es1 (SetTable.grown es1.size);have p3:=Rp.relayAll t2 es1 (SetTable.grown es1.size);generalize relayAll t2 es1 (SetTable.grown es1.size)=R3 at p1 p2 p3;obtain⟨es3,t3,gv⟩:=R3;obtain⟨ls,l1,l2⟩:=he;obtain⟨ls3,l3,l4⟩:=j3 p1 l2;have z:es3.size=es1.size:=by rw[<-Ih,p1.length_eq,Ih]
  have few3:es3.size<scanBound:=by rw[z];exact bV
  refine J7 (hg _ _ _ ?_);refine J7 (wpAny_storeSet_of S1.at_ S1.data ?_ (fits_of_scanBound few3));exact J8 (q _ (b1.trans (HR.update _ a _)) ⟨_,_,_,_,S1.store ⟨ls3,l3.trans l1,l4⟩ nd few3 p2 p3.2 p3.1⟩)
 ·rw[if_neg hc];exact J8 (q _ b1 ⟨_,_,_,_,S1⟩)
theorem ym {k:K}{x:Value}{Q:Bool->Shared->Prop}(hk:knd.is k x=true)(hsc:x.scannable=true)(S:e7 knd s.heap a ks)(room:ks.length+1<scanBound)
  (q:∀h',HR a s.heap h'->e7 knd h' a (if k∈ks then ks else ks++[k])->Q (!decide (k∈ks)) { s with heap:=h' }) :
  wpAny (model prog w) A (setAddHashed a x (knd.hash k)) Q E s:=by
 obtain⟨o,es,ep,t,S⟩:=S;have few1:es.size+1<scanBound:=by rw[S.len];exact room
 unfold setAddHashed setAddHashedIn;refine Kb (J7 (Ku S.at_ S.data S.fits ?_));dsimp only;rw[byScan_of hsc S.bV S.elems];simp only[↓reduceIte];unfold setAddByScan;refine J7 (J7 (Kf ?_));refine J7 (wpAny_setScan_of hk S.at_ S.data S.fits S.elems ?_);cases hr:List.findIdx? (λ e=>knd.is k e.2) es.toList with
 | some j =>
  obtain⟨hj,hpj,_⟩:=List.findIdx?_eq_some_iff_getElem.mp hr;have hin:k∈ks:=(S.mem k).mpr ⟨es.toList[j],Ik hj,hpj⟩;refine J8 (J8 ?_);have:=q s.heap (HR.refl a s.heap) (by rw[if_pos hin];exact⟨o,es,ep,t,S⟩);rw[decide_eq_true hin] at this;exact this
 | none =>
  have hin:¬k∈ks:=λ z=>by
   obtain⟨e,he,hp⟩:=(S.mem k).mp z;have:=List.findIdx?_eq_none_iff.mp hr e he;rw[hp] at this;exact Bool.noConfusion this
  rw[if_neg hin,decide_eq_false hin] at q;have p1:=layNew_perm t es (knd.hash k) x;have p2:=layNew_fits t es (knd.hash k) x;have p3:=S.up.layNew es (knd.hash k) x;dsimp only;generalize layNew t es (knd.hash k) x=L at p1 p2 p3 ⊢;obtain⟨es1,t1,wd,gv⟩:=L;dsimp only at p1 p2 p3 ⊢;rw[Array.toList_push] at p1;have hE:∃ls:List K,ls.Perm (ks++[k])/\Paired (Ent knd) es1.toList ls:=by
   obtain⟨ls,l1,l2⟩:=S.ents;obtain⟨m,m1,m2⟩:=j3 p1 (ow (F:=Ent knd) (x:=(knd.hash k,x)) (y:=k) ⟨hk,rfl,hsc⟩ l2);exact⟨m,m1.trans (l1.append_right _),m2⟩
  have nd1:(ks++[k]).Nodup:=by
   rw[IV];exact⟨S.nd,by simp,λ y hy z hz e=>hin (by rw[Hm] at hz;rw[<-hz,<-e];exact hy)⟩
  have few2:es1.size<scanBound:=by rw[<-Ih,p1.length_eq,Ht,Ih];simpa using few1
  have gw:∀(b:Bool) (s₁ : Shared) (Q':Unit->Shared->Prop),Q' () s₁->wpAny (model prog w) A (match b with | true=>rule "set.scan.the-table-gave-way" | false=>pure ()) Q' E s₁:=λ b s₁ Q' hq=>by
   cases b
   ·exact J8 hq
   ·exact Kf hq
  refine J7 (gw _ _ _ ?_);by_cases hp:t1.plain=true
  ·rw[if_pos hp];refine J7 ?_;rw[hashByValue_scannable 8 hsc];refine J8 ?_;by_cases hv:plainKind x=true
   ·rw[if_pos hv];exact o2 gw S hE nd1 few2 p2 p3.2 p3.1 λ h' b Sk=>J8 (q h' b Sk)
   ·rw[if_neg hv];exact o2 gw S hE nd1 few2 (SetTable.fits_plain_off p2) p3.2 (λ z=>by cases z) λ h' b Sk=>J8 (q h' b Sk)
  ·rw[if_neg hp];refine J7 (J8 ?_);rw[if_pos rfl];exact o2 gw S hE nd1 few2 p2 p3.2 p3.1 λ h' b Sk=>J8 (q h' b Sk)
theorem mL {led:Bool} (hl:led = !(w.params.followText "set-order")) (at_:h.get? a=some { cls:=.type "set",dict:=none,data:=.set #[] 0 (.fresh 0 0 led) }):e7 knd h a [] :=
 ⟨_,#[],0,_,at_,⟨rfl,rfl,rfl⟩,rfl,⟨[],.refl _,.nil⟩,Jd,by decide,by rfl,hl,λ _=>Up.bV (HL _)⟩
end
theorem ll {α : Type}:∀(l:List α) (i:Nat) (h:i<l.length),(l[i]::l.eraseIdx i).Perm l
 | x::l,0,_=>.refl _
 | x::l,i+1,h=>by
  have hi:i<l.length:=by simpa using h
  have ih:=ll l i hi;show (l[i]::x::l.eraseIdx i).Perm (x::l);exact (List.Perm.swap x _ _).trans (ih.cons x)
theorem zH {α : Type}(f:Nat->Nat):∀(n k:Nat) (l:List α) (out:Array α),l.length=n->(pickOrder.go f n k l out).toList.Perm (out.toList++l):=by
 intro n
 induction n with
 | zero =>
  intro k l out hl;have:l=[]:=List.length_eq_zero_iff.mp hl;subst this;unfold pickOrder.go;simp
 | succ n ih =>
  intro k l out hl;unfold pickOrder.go;have hlt:f k % l.length<l.length:=Nat.mod_lt _ ⋯;rw[J3 hlt];dsimp only;refine (ih _ _ _ (by rw[List.length_eraseIdx_of_lt hlt];omega)).trans ?_;rw[Array.toList_push,Iq];refine List.Perm.append_left _ ?_;exact ll _ _ hlt
theorem iy {α : Type}(f:Nat->Nat)(xs:Array α):(pickOrder f xs).toList.Perm xs.toList:=by
 unfold pickOrder;have:=zH f xs.size 0 xs.toList #[] (by simp);simpa using this
section
variable {prog:Program}{w:World}{A:Around}{E:AT}{s:Shared}
theorem nK {Q:Bool->Shared->Prop} (q:Q (w.params.followText "set-order") s):wpAny (model prog w) A setsByText Q E s:=by
 unfold setsByText;exact J7 (Kz (J8 q))
theorem DA {src:Source}{n:Nat}{Q:Nat->Shared->Prop}(hn:n≠0)(q:∀(i:Nat) (d:_),i<n->Q i { s with drawn:=d }):wpAny (model prog w) A (choose src n) Q E s:=by
 intro Γ p hΓ;show Sem.wp _ _ (.choose src n .pure) _ _ _ _;rw[Sem.wp_choose];exact⟨hn,q _ _ (Nat.mod_lt _ (Nat.pos_of_ne_zero hn))⟩
theorem FL:∀(n:Nat) (xs:List Nat) (s:Shared) {Q:List Nat->Shared->Prop},xs.length=n->(∀(ys:List Nat) (d:_),ys.Perm xs->Q ys { s with drawn:=d })->wpAny (model prog w) A (drawOrder n xs) Q E s:=by
 intro n
 induction n with
 | zero =>
  intro xs s Q hl q;have:xs=[]:=List.length_eq_zero_iff.mp hl;subst this;unfold drawOrder;exact J8 (q [] s.drawn (.refl _))
 | succ n ih =>
  intro xs s Q hl q;cases xs with
  | nil=>cases hl
  | cons x0 xs =>
   unfold drawOrder;refine J7 (DA (by simp) λ i d hi=>?_);rw[J3 hi];dsimp only;refine J7 (ih _ _ (by rw[List.length_eraseIdx_of_lt hi];omega) λ ys d' hp=>?_);refine J8 (q _ d' ?_);exact (hp.cons _).trans (ll _ _ hi)
end
section
variable {prog:Program}{w:World}{K:Type}[DecidableEq K]{knd:KeyKind prog w K}
variable {A:Around}{E:AT}{s:Shared}{a:Addr}{ks:List K}{o:Obj}{es:Array (Int×Value)}{ep:Nat}{t:SetTable}
theorem zI {slot i:Nat} {Q:Option (Value×Nat)->Shared->Prop} (S:dN knd s.heap a ks o es ep t) (hb:w.params.followText "set-order" = true)
  (q:Q (((pickOrder (w.params.setOrder a ep) es)[i]?).map λ e=>(e.2,slot)) s):wpAny (model prog w) A (setNext a slot i ep) Q E s:=by
 unfold setNext;refine J7 (Ku S.at_ S.data S.fits ?_);dsimp only;refine J7 (nK ?_);rw[hb,if_pos rfl];rw[if_neg (by simp)];unfold setWalk;refine J7 (J7 (Ku S.at_ S.data S.fits ?_));dsimp only;refine J7 (nK ?_);rw[hb,if_pos rfl];exact J7 (Kz (J8 (J8 q)))
theorem zJ {slot i:Nat} {Q:Option (Value×Nat)->Shared->Prop} (S:dN knd s.heap a ks o es ep t) (hb:w.params.followText "set-order" = false) (hd:t.plain=true\/es.size<=1) (hs:SetTable.below t.place slot=i)
  (q:Q (match es[i]?,t.place[i]? with | some (_,x),some j=>some (x,j+1) | _,_=>none) s):wpAny (model prog w) A (setNext a slot i ep) Q E s:=by
 unfold setNext;refine J7 (Ku S.at_ S.data S.fits ?_);dsimp only;refine J7 (nK ?_);rw[hb,if_neg HK];refine KA (λ h=>absurd (show (!t.plain&&decide (es.size > 1))=true from h) ?_) (λ _=>?_)
 ·rcases hd with h | h
  ·rw[h];simp
  ·rw[show decide (es.size > 1)=false by simp;omega];simp
 have hl:t.led=true:=by rw[S.led,hb];rfl
 refine J7 ?_;show wpAny _ _ (if (!t.led&&!es.isEmpty)=true then unsupported "set:maker-not-led" else pure ()) _ _ s;rw[hl,if_neg (by simp)];refine J8 ?_;rw[hs];exact J8 q
theorem E3 {i:Nat}{e:Int×Value}{Q:AT}(S:dN knd s.heap a ks o es ep t)(he:es[i]?=some e)(q:Q e.2 s):wpAny (model prog w) A (setNextDrawn a i ep) Q E s:=by
 unfold setNextDrawn;refine J7 (Ku S.at_ S.data S.fits ?_);dsimp only;rw[if_neg (by simp)];rw[he];exact J8 q
theorem slot_next:Slot "set_iterator" "__next__" "set_iterator.__next__" :=
  Slot.of (owner := "set_iterator") (n := "__next__")
    (by rw[typeLookup_type,builtinLookup_eq_fast]
        kernel_rfl)
    ⋯
    ⋯
    ⋯
    (by first
      | exact .inl ⋯
      | exact .inr ⋯)
    (by rw[isSubtype_type]
        kernel_rfl)
theorem entry_next:entryFor table "set_iterator.__next__" = some Builtin.«set_iterator.__next__» :=
 entryFor_of_tree (by kernel_rfl)
theorem sN:Manifest.owners.lookup (String.ofList ['r','o','t','a','r','e','t','i','_','t','e','s'].reverse)=some Manifest.sig_set_iterator:=by
 kernel_rfl
theorem args_next (v:Value):argsOk "set_iterator.__next__" ⟨[v],[]⟩:=by
 unfold argsOk;rw[signature?_of (id := "set_iterator.__next__") (n:=['_','_','t','x','e','n','_','_']) (o:=['r','o','t','a','r','e','t','i','_','t','e','s'])
  (by kernel_rfl) sN]
 kernel_rfl
end
def fF (h:Heap)(I:Addr)(first:Value)(i:Nat)(a:Addr)(n ep:Nat):Prop :=
 ∃oI,h.get? I=some oI/\oI.cls=.type "set_iterator" /\ oI.data=.fields #[first,.int i 0,.ref a,.int n 0,.int ep 0]
theorem fF.type {s:Shared} {I:Addr} {first:Value} {i:Nat} {a:Addr} {n ep:Nat} (h:fF s.heap I first i a n ep):s.TypeIs (.ref I) "set_iterator" := let ⟨o,e,c,_⟩:=h;⟨o,e,c⟩
theorem fF.keep {h h':Heap}{I:Addr}{first:Value}{i:Nat}{a:Addr}{n ep:Nat}(x:fF h I first i a n ep)(k:∀o,h.get? I=some o->h'.get? I=some o):fF h' I first i a n ep :=
 let ⟨o,e,c⟩:=x;⟨o,k _ e,c⟩
section
variable {prog:Program}{w:World}{K:Type}[DecidableEq K]{knd:KeyKind prog w K}
variable {A:Around}{E:AT}{s:Shared}{a I:Addr}{ks:List K}{o:Obj}{es:Array (Int×Value)}{ep:Nat}{t:SetTable}
theorem ve {slot nx i:Nat}{x:Value}{Q:Option Value->Shared->Prop}(hit:fF s.heap I (.int slot 0) i a es.size ep)(S:dN knd s.heap a ks o es ep t)
  (hn:∀(A:Around) (E:AT) (Q:Option (Value×Nat)->Shared->Prop),Q (some (x,nx)) s->wpAny (model prog w) A (setNext a slot i ep) Q E s)
  (q:∀h',fF h' I (.int nx 0) (i+1) a es.size ep->HR I s.heap h'->Q (some x) { s with heap:=h' }):wpAny (model prog w) A (pyNext (.ref I)) Q E s:=by
 obtain⟨oI,ho,hc,hd⟩:=id hit;unfold pyNext;refine J7 (Ki (wpAny_callSpecial?_slot (name:=Str.ofString "__next__") hit.type slot_next (Kc slot_next hit.type entry_next ?_ (args_next _))));unfold Builtin.«set_iterator.__next__»;refine J7 (J8 ?_);refine J7 (KC ho hd ?_);dsimp only;refine J7 (Kw S.at_ S.data S.fits ?_);rw[if_neg (by simp)];simp only[IM];refine J7 (hn _ _ _ ?_);dsimp only;refine J7 (Kl ho hd (by simp) ?_);have d1:(Obj.mapFields (·.setIfInBounds 0 (rawInt (nx:Int))) oI).data=.fields #[.int nx 0,.int i 0,.ref a,.int es.size 0,.int ep 0]:=by rw[Obj.data_mapFields hd];simp[rawInt]
 have g1:=IA (Obj.mapFields (·.setIfInBounds 0 (rawInt (nx:Int)))) ho (Obj.isFreed_of_fields (Obj.data_mapFields hd _));refine J7 (Kl g1 d1 (by simp) ?_);refine J8 ⟨_,rfl,J8 (q _ ⟨_,IA _ g1 (Obj.isFreed_of_fields (Obj.data_mapFields d1 _)),?_,?_⟩ ((HR.update ..).trans (HR.update ..)))⟩
 ·exact (Obj.cls_mapFields ..).trans ((Obj.cls_mapFields ..).trans hc)
 ·rw[Obj.data_mapFields d1];simp[rawInt]
theorem ox {Q:Option Value->Shared->Prop}{s0:Shared}(hh:A.handled=none)(hk:∀b o,b≠I->s0.heap.get? b=some o->s.heap.get? b=some o)
  (q:∀h',(∀b o,b≠I->s0.heap.get? b=some o->h'.get? b=some o)->Q none { s with heap:=h' }) :
  wpAny (model prog w) A.in1 (newExc (.type "StopIteration") [] >>= λ e=>(raiseNew e:Sem Fin)) (λ _ _=>False)
   (λ e s'=>wpAny (model prog w) A (isInstance e (.type "StopIteration") >>= λ b=>if b=true then pure none else throw e) Q E s') s:=by
 refine J7 ?_;simp only[newExc,newTuple];refine J7 (Ke ?_ (by size_fits));refine J7 (m:=firstArgMember _ _) (wpAny_of_eq (a:=Value.none) (by first | rfl | (simp only[firstArgMember];rfl)) ?_);refine Ke ?_ (by size_fits);simp only[raiseNew];refine J7 (wpAny_handled ?_);rw[show A.in1.handled=none from hh];refine J7 (J8 (wpAny_throw ?_));refine J7 (Ks (T := "StopIteration") (b:=true) ⟨_,Hs _ rfl,rfl⟩ isSubtype_stop ?_);exact J8 (q _ λ b o hb e=>Hr _ (Hr _ (hk b o hb e)))
theorem xa {slot i:Nat}{Q:Option Value->Shared->Prop}(hh:A.handled=none)(hit:fF s.heap I (.int slot 0) i a es.size ep)(S:dN knd s.heap a ks o es ep t)
  (hn:∀(A:Around) (E:AT) (Q:Option (Value×Nat)->Shared->Prop),Q none s->wpAny (model prog w) A (setNext a slot i ep) Q E s)
  (q:∀h',(∀b o,b≠I->s.heap.get? b=some o->h'.get? b=some o)->Q none { s with heap:=h' }):wpAny (model prog w) A (pyNext (.ref I)) Q E s:=by
 obtain⟨oI,ho,hc,hd⟩:=id hit;unfold pyNext;refine J7 (Ki (wpAny_callSpecial?_slot (name:=Str.ofString "__next__") hit.type slot_next (Kc slot_next hit.type entry_next ?_ (args_next _))));unfold Builtin.«set_iterator.__next__»;refine J7 (J8 ?_);refine J7 (KC ho hd ?_);dsimp only;refine J7 (Kw S.at_ S.data S.fits ?_);rw[if_neg (by simp)];simp only[IM];refine J7 (hn _ _ _ ?_);dsimp only;refine J7 (Kl ho hd (by simp) ?_);refine J9 (ox (I:=I) (s0:=s) (E:=E) (Q:=Q) hh (λ b o hb e=>(IE _ _ (Ne.symm hb)).trans e) λ h' k=>q h' k) (λ _ _ z=>z.elim) λ e s' z=>z
theorem Bv {T:Addr}{i k:Nat}{oT:Obj}{its:Array Value}{c:Nat}{x:Int×Value}{Q:Option Value->Shared->Prop}(hit:fF s.heap I (.ref T) i a es.size ep)(S:dN knd s.heap a ks o es ep t)
  (hT:s.heap.get? T=some oT) (dT:oT.data=.seq its c) (hk:its[i]?=some (.int k 0)) (hx:es[k]?=some x)
  (q:∀h',fF h' I (.ref T) (i+1) a es.size ep->HR I s.heap h'->Q (some x.2) { s with heap:=h' }):wpAny (model prog w) A (pyNext (.ref I)) Q E s:=by
 obtain⟨oI,ho,hc,hd⟩:=id hit;unfold pyNext;refine J7 (Ki (wpAny_callSpecial?_slot (name:=Str.ofString "__next__") hit.type slot_next (Kc slot_next hit.type entry_next ?_ (args_next _))));unfold Builtin.«set_iterator.__next__»;refine J7 (J8 ?_);refine J7 (KC ho hd ?_);dsimp only;refine J7 (Kw S.at_ S.data S.fits ?_);rw[if_neg (by simp)];refine J7 (Kd hT dT ?_);dsimp only;simp only[IM];rw[hk];dsimp only;simp only[IM];refine J7 (E3 S hx ?_);refine J7 (Kl ho hd (by simp) ?_);refine J8 ⟨_,rfl,J8 (q _ ⟨_,IA _ ho (Obj.isFreed_of_fields (Obj.data_mapFields hd _)),?_,?_⟩ (HR.update ..))⟩
 ·exact (Obj.cls_mapFields ..).trans hc
 ·rw[Obj.data_mapFields hd];simp[rawInt]
theorem DB {T:Addr}{i:Nat}{oT:Obj}{its:Array Value}{c:Nat}{Q:Option Value->Shared->Prop}(hh:A.handled=none)(hit:fF s.heap I (.ref T) i a es.size ep)(S:dN knd s.heap a ks o es ep t)
  (hT:s.heap.get? T=some oT) (dT:oT.data=.seq its c) (hk:its[i]?=none)
  (q:∀h',(∀b o,b≠I->s.heap.get? b=some o->h'.get? b=some o)->Q none { s with heap:=h' }):wpAny (model prog w) A (pyNext (.ref I)) Q E s:=by
 obtain⟨oI,ho,hc,hd⟩:=id hit;unfold pyNext;refine J7 (Ki (wpAny_callSpecial?_slot (name:=Str.ofString "__next__") hit.type slot_next (Kc slot_next hit.type entry_next ?_ (args_next _))));unfold Builtin.«set_iterator.__next__»;refine J7 (J8 ?_);refine J7 (KC ho hd ?_);dsimp only;refine J7 (Kw S.at_ S.data S.fits ?_);rw[if_neg (by simp)];refine J7 (Kd hT dT ?_);dsimp only;simp only[IM];rw[hk];dsimp only;refine J7 (Kl ho hd (by simp) ?_);have d1:(Obj.mapFields (·.setIfInBounds 0 (rawInt 0)) oI).data=.fields #[.int 0 0,.int i 0,.ref a,.int es.size 0,.int ep 0]:=by rw[Obj.data_mapFields hd];simp[rawInt]
 have g1:=IA (Obj.mapFields (·.setIfInBounds 0 (rawInt 0))) ho (Obj.isFreed_of_fields (Obj.data_mapFields hd _));refine J7 (Kl g1 d1 (by simp) ?_);refine J9 (ox (I:=I) (s0:=s) (E:=E) (Q:=Q) hh (λ b o hb e=>(IE _ _ (Ne.symm hb)).trans ((IE _ _ (Ne.symm hb)).trans e)) λ h' k=>q h' k) (λ _ _ z=>z.elim) λ e s' z=>z
theorem pZ:Slot "set_iterator" "__iter__" "set_iterator.__iter__" :=
  Slot.of (owner := "set_iterator") (n := "__iter__")
    (by rw[typeLookup_type,builtinLookup_eq_fast]
        kernel_rfl)
    ⋯
    ⋯
    ⋯
    (by first
      | exact .inl ⋯
      | exact .inr ⋯)
    (by rw[isSubtype_type]
        kernel_rfl)
theorem v5:entryFor table "set_iterator.__iter__" = some Builtin.«dict_keyiterator.__iter__» :=
 entryFor_alias (id' := "dict_keyiterator.__iter__")
  (by kernel_rfl) rfl
  ⋯
  (by kernel_rfl)
theorem yn (v:Value):argsOk "set_iterator.__iter__" ⟨[v],[]⟩:=by
 unfold argsOk;rw[signature?_of (id := "set_iterator.__iter__") (n:=['_','_','r','e','t','i','_','_']) (o:=['r','o','t','a','r','e','t','i','_','t','e','s'])
  (by kernel_rfl) sN]
 kernel_rfl
theorem mM {first:Value}{i:Nat}{Q:AT}{n:Nat}(hit:fF s.heap I first i a n ep)(q:Q (.ref I) s):wpAny (model prog w) A (pyIter (.ref I)) Q E s:=by
 refine wpAny_pyIter_slot hit.type pZ (Kc pZ hit.type v5 ?_ (yn _));show wpAny _ _ (ret (.ref I)) _ _ s;exact J8 ⟨_,rfl, "set_iterator",_,hit.type,slot_next.lookup,q⟩
theorem E4 (hh:A.handled=none) (hI:a≠I) (hb:w.params.followText "set-order" = true) (nd:True) :
  Walks prog w A I [I,a] [I] es.size (λ i v=>∃e,(pickOrder (w.params.setOrder a ep) es)[i]?=some e/\e.2=v) (λ i h=>fF h I (.int 0 0) i a es.size ep/\dN knd h a ks o es ep t) where
 sub:=λ b hb=>by simp at hb;simp[hb]
 frame:=λ _ _ _ st k=>⟨st.1.keep λ o e=>k I (by simp) o e,st.2.keep λ o e=>k a (by simp) o e⟩
 item:=λ i s Q E hi st q=>by
  have z:(pickOrder (w.params.setOrder a ep) es).size=es.size:=by have:=(iy (w.params.setOrder a ep) es).length_eq;simpa using this
  have g:(pickOrder (w.params.setOrder a ep) es)[i]?=some ((pickOrder (w.params.setOrder a ep) es)[i]'⋯):=by simp
  refine ve (slot:=0) (nx:=0) st.1 st.2 (λ A E Q h=>zI st.2 hb (by rw[g];exact h)) λ h' hit' sb=>?_
  exact q _ h' s.toks ⟨_,g,rfl⟩ ⟨hit',st.2.keep λ o e=>sb.extBut a o hI e⟩ λ b o hb e=>sb.extBut b o (λ z=>hb (by simp[z])) e
 done:=λ s Q E st q=>by
  have z:(pickOrder (w.params.setOrder a ep) es).size=es.size:=by have:=(iy (w.params.setOrder a ep) es).length_eq;simpa using this
  refine xa (slot:=0) hh st.1 st.2 (λ A E Q h=>zI st.2 hb (by rw[Array.getElem?_eq_none ⋯];exact h)) λ h' k=>?_
  exact q h' s.toks λ b o hb e=>k b o (λ z=>hb (by simp[z])) e
 self:=λ _ _ _ _ st q=>mM st.1 q
theorem o4 {α : Type}{es:Array α}:∀{ys:List Nat},(∀k∈ys,k<es.size)->∀i:Nat,(ys.filterMap λ k=>es[k]?)[i]?=(ys[i]?).bind λ k=>es[k]?
 | [],_,i=>by simp
 | y::ys,h,i=>by
  have hy:es[y]?=some (es[y]'(h y (Hv ..))):=by simp
  rw[Jg,hy];cases i with
  | zero=>simp
  | succ i =>
   have:=o4 (ys:=ys) (λ k hk=>h k (Hx _ hk)) i;simpa using this
def p7 (t:SetTable):Nat->Nat
 | 0=>0
 | i+1=>t.place.getD i 0+1
theorem p8 {t:SetTable}(up:Up t.place){i:Nat}(h:i<=t.place.size):SetTable.below t.place (p7 t i)=i:=by
 cases i with
 | zero=>exact yl up
 | succ i =>
  have hi:i<t.place.size:=by omega
  have e:t.place[i]?=some (t.place.getD i 0):=by simp[Array.getD,hi]
  exact yk up e
theorem E5 (hh:A.handled=none) (hI:a≠I) (hb:w.params.followText "set-order" = false) (hd:t.plain=true\/es.size<=1) (hf:t.fits es.size=true) (hr:Rp t) :
  Walks prog w A I [I,a] [I] es.size (λ i v=>∃e,es[i]?=some e/\e.2=v) (λ i h=>fF h I (.int (p7 t i) 0) i a es.size ep/\dN knd h a ks o es ep t) where
 sub:=λ b hb=>by simp at hb;simp[hb]
 frame:=λ _ _ _ st k=>⟨st.1.keep λ o e=>k I (by simp) o e,st.2.keep λ o e=>k a (by simp) o e⟩
 item:=λ i s Q E hi st q=>by
  have z:t.place.size=es.size:=by simp only[SetTable.fits,HU,beq_iff_eq] at hf;exact hf.1
  have up:Up t.place:=by
   rcases hd with c | c
   ·exact hr c
   ·exact Up.bV ⋯
  have g:es[i]?=some es[i]:=by simp[hi]
  have gp:t.place[i]?=some (t.place.getD i 0):=by simp[Array.getD,z,hi]
  refine ve (slot:=p7 t i) (nx:=p7 t (i+1)) (x:=es[i].2) st.1 st.2 (λ A E Q h=>zJ st.2 hb hd (p8 up ⋯) (by rw[g,gp];exact h)) λ h' hit' sb=>?_
  exact q _ h' s.toks ⟨_,g,rfl⟩ ⟨hit',st.2.keep λ o e=>sb.extBut a o hI e⟩ λ b o hb e=>sb.extBut b o (λ z=>hb (by simp[z])) e
 done:=λ s Q E st q=>by
  have z:t.place.size=es.size:=by simp only[SetTable.fits,HU,beq_iff_eq] at hf;exact hf.1
  have up:Up t.place:=by
   rcases hd with c | c
   ·exact hr c
   ·exact Up.bV ⋯
  refine xa (slot:=p7 t es.size) hh st.1 st.2 (λ A E Q h=>zJ st.2 hb hd (p8 up ⋯) (by rw[Array.getElem?_eq_none (Hn _)];exact h)) λ h' k=>?_
  exact q h' s.toks λ b o hb e=>k b o (λ z=>hb (by simp[z])) e
 self:=λ _ _ _ _ st q=>mM st.1 q
theorem E6 {T:Addr}{oT:Obj}{ys:List Nat}(hh:A.handled=none)(hI:a≠I)(hT:T≠I)(dT:oT.data=.seq (ys.map λ (i:Nat)=>rawInt i).toArray 0)(hp:ys.Perm (HY es.size)) :
  Walks prog w A I [I,a,T] [I] es.size (λ i v=>∃e,((ys.filterMap λ k=>es[k]?))[i]?=some e/\e.2=v) (λ i h=>fF h I (.ref T) i a es.size ep/\dN knd h a ks o es ep t/\h.get? T=some oT) where
 sub:=λ b hb=>by simp at hb;simp[hb]
 frame:=λ _ _ _ st k=>⟨st.1.keep λ o e=>k I (by simp) o e,st.2.1.keep λ o e=>k a (by simp) o e,k T (by simp) _ st.2.2⟩
 item:=λ i s Q E hi st q=>by
  have hl:ys.length=es.size:=by rw[hp.length_eq,Js]
  have hin:∀k∈ys,k<es.size:=λ k hk=>IQ.mp (hp.mem_iff.mp hk)
  have h1:ys[i]?=some (ys[i]'⋯):=by simp
  have hk:ys[i]'⋯<es.size:=hin _ (Ik _);generalize ys[i]'⋯=k at h1 hk;have hx:es[k]?=some es[k]:=by simp[hk]
  have hv:(ys.filterMap λ k=>es[k]?)[i]?=some es[k]:=by
   rw[o4 hin,h1];exact hx
  refine Bv (k:=k) (x:=es[k]) st.1 st.2.1 st.2.2 dT (by simp[h1,rawInt]) hx λ h' hit' sb=>?_
  exact q _ h' s.toks ⟨_,hv,rfl⟩ ⟨hit',st.2.1.keep λ o e=>sb.extBut a o hI e,sb.extBut T _ hT st.2.2⟩ λ b o hb e=>sb.extBut b o (λ z=>hb (by simp[z])) e
 done:=λ s Q E st q=>by
  have hl:ys.length=es.size:=by rw[hp.length_eq,Js]
  refine DB hh st.1 st.2.1 st.2.2 dT (by simp[hl]) λ h' k=>?_
  exact q h' s.toks λ b o hb e=>k b o (λ z=>hb (by simp[z])) e
 self:=λ _ _ _ _ st q=>mM st.1 q
theorem mN {b x y:Addr}(h:b∈[x,y]):b=x\/b=y:=by simpa using h
theorem Bw {b x y z:Addr}(h:b∈[x,y,z]):b=x\/b=y\/b=z:=by simpa using h
theorem yo:entryFor table "set.__iter__" = some Builtin.«frozenset.__iter__» :=
 entryFor_alias (id' := "frozenset.__iter__")
  (by kernel_rfl) rfl
  ⋯
  (by kernel_rfl)
theorem dN.typeIs (S:dN knd s.heap a ks o es ep t):s.TypeIs (.ref a) "set" := ⟨o,S.at_,S.ex.1⟩
theorem v7 {Q:Bool->Shared->Prop} (S:dN knd s.heap a ks o es ep t) (q:Q (!(w.params.followText "set-order")&&(!t.plain&&decide (es.size > 1))) s):wpAny (model prog w) A (setDrawn a) Q E s:=by
 unfold setDrawn;refine J7 (Ku S.at_ S.data S.fits ?_);dsimp only;exact J7 (nK (J8 q))
def Comes (es:Array (Int×Value))(P:Nat->Value->Prop):Prop:=∃l:List (Int×Value),l.Perm es.toList/\P=λ i v=>∃e,l[i]?=some e/\e.2=v
theorem Bx {Q:AT}(hh:A.handled=none)(S:dN knd s.heap a ks o es ep t)
  (q:∀(I:Addr) (h':Heap) (d:_) (fp:List Addr) (P:Nat->Value->Prop) (St:Nat->Heap->Prop),(∀b o,s.heap.get? b=some o->h'.get? b=some o)->s.heap.objs.size<=I->(∀b∈fp,b<h'.objs.size)->(∀b,h'.objs.size<=b->b∉fp) ->
   (∀b∈fp,b=a\/s.heap.objs.size<=b)->Comes es P->(∀A:Around,A.handled=none->Walks prog w A I fp [I] es.size P St)->St 0 h'->Q (.ref I) { s with heap:=h',drawn:=d }) :
  wpAny (model prog w) A (pyIter (.ref a)) Q E s:=by
 have la:a<s.heap.objs.size:=Hq S.at_;refine wpAny_pyIter_slot S.typeIs PySem.F.slot_set_iter (Kc PySem.F.slot_set_iter S.typeIs yo ?_ (PySem.F.args_set_iter_1 _));unfold Builtin.«frozenset.__iter__»;refine J7 ?_;unfold Builtin.Frozenset.slot0;refine J7 (J8 ?_);refine J8 ?_;refine J7 ?_;unfold Builtin.Frozenset.sizeOf;refine J7 (Kw S.at_ S.data S.fits (J8 ?_));refine J7 (v7 S ?_);cases hb:w.params.followText "set-order" with
 | true =>
  rw[Bool.not_true,Jz,if_neg HK];refine J7 (J8 ?_);refine J7 (KL S.at_ S.data S.fits ?_);refine J7 ?_;simp only[newFields];refine Ke (J8 ⟨_,rfl, "set_iterator",_,⟨_,Hs _ rfl,rfl⟩,slot_next.lookup,?_⟩) (by size_fits);refine q _ _ s.drawn [s.heap.objs.size,a] _ _ (λ b o e=>Hr _ e) (Hn _) (λ b hb=>?_) (λ b hb hm=>?_) (λ b hb=>?_) ⟨_,iy (w.params.setOrder a ep) es,?_⟩ (λ A hh=>E4 (knd:=knd) (ks:=ks) (o:=o) (t:=t) hh (Hw la) hb trivial) ⟨⟨_,Hs _ rfl,rfl,rfl⟩,S.keep λ o e=>Hr _ e⟩
  ·rw[HJ]
   rcases mN hb with e | e
   ·rw[e];exact Iy _
   ·rw[e];exact Il la
  ·rw[HJ] at hb
   rcases mN hm with e | e
   ·rw[e] at hb;exact JP _ hb
   ·rw[e] at hb;exact HG _ (HQ la (Jt hb))
  ·rcases mN hb with e | e
   ·exact .inr (by rw[e];exact Hn _)
   ·exact .inl e
  ·funext i v;simp
 | false =>
  rw[Bool.not_false,Ju];by_cases hd:(!t.plain&&decide (es.size > 1))=true
  ·rw[hd,if_pos rfl];refine J7 (FL es.size (HY es.size) s (by simp) λ ys d hp=>?_);have hz:(ys.map λ (i:Nat)=>rawInt i).length<=sizeLine:=by rw[Hk,hp.length_eq,Js];exact fits_of_scanBound S.bV
   refine J7 (wpAny_newTuple ?_ hz);have S1:dN knd (s.heap.push { cls:=.type "tuple",data:=.seq (ys.map λ (i:Nat)=>rawInt i).toArray }) a ks o es ep t:=S.keep λ o e=>Hr _ e
   refine J7 (KL S1.at_ S1.data S1.fits ?_);refine J7 ?_;simp only[newFields];refine Ke (J8 ⟨_,rfl, "set_iterator",_,⟨_,Hs _ rfl,rfl⟩,slot_next.lookup,?_⟩) (by size_fits);refine q _ _ d [(s.heap.push { cls:=.type "tuple",data:=.seq (ys.map λ (i:Nat)=>rawInt i).toArray }).objs.size,a,s.heap.objs.size] _ _ (λ b o e=>Hr _ (Hr _ e)) (by rw[HJ];exact Ip _) (λ b hb=>?_) (λ b hb hm=>?_) (λ b hb=>?_) ⟨ys.filterMap λ k=>es[k]?,?_,rfl⟩
    (λ A hh=>E6 (knd:=knd) (ks:=ks) (o:=o) (t:=t) (oT:={ cls:=.type "tuple",data:=.seq (ys.map λ (i:Nat)=>rawInt i).toArray }) hh (by rw[HJ];exact Hw (Il la)) (by rw[HJ];exact Hw (Iy _)) rfl hp) ⟨⟨_,Hs _ rfl,rfl,rfl⟩,S1.keep λ o e=>Hr _ e,Hr _ (Hs _ rfl)⟩
   ·rw[HJ,HJ]
    rcases Bw hb with e | e | e
    ·rw[e,HJ];exact Iy _
    ·rw[e];exact Il (Il la)
    ·rw[e];exact Il (Iy _)
   ·rw[HJ,HJ] at hb
    rcases Bw hm with e | e | e
    ·rw[e,HJ] at hb;exact JP _ hb
    ·rw[e] at hb;exact HG _ (HQ la (Jt (Jt hb)))
    ·rw[e] at hb;exact JP _ (Jt hb)
   ·rcases Bw hb with e | e | e
    ·exact .inr (by rw[e,HJ];exact Ip _)
    ·exact .inl e
    ·exact .inr (by rw[e];exact Hn _)
   ·refine (hp.filterMap _).trans ?_;have:((HY es.size).filterMap λ k=>es[k]?)=es.toList:=by
     refine List.ext_getElem? λ i=>?_
     rw[o4 (λ k hk=>IQ.mp hk)];by_cases hi:i<es.size
     ·rw[List.getElem?_range hi];simp
     ·rw[Je (by simp;omega),Je (by simp;omega)];rfl
    rw[this]
  ·rw[if_neg hd];refine J7 (J8 ?_);refine J7 (KL S.at_ S.data S.fits ?_);refine J7 ?_;simp only[newFields];refine Ke (J8 ⟨_,rfl, "set_iterator",_,⟨_,Hs _ rfl,rfl⟩,slot_next.lookup,?_⟩) (by size_fits);have hd':t.plain=true\/es.size<=1:=by
    cases hp:t.plain with
    | true=>exact .inl rfl
    | false=>right;rw[hp] at hd;simp at hd;exact hd
   refine q _ _ s.drawn [s.heap.objs.size,a] _ _ (λ b o e=>Hr _ e) (Hn _) (λ b hb=>?_) (λ b hb hm=>?_) (λ b hb=>?_) ⟨es.toList,.refl _,?_⟩ (λ A hh=>E5 (knd:=knd) (ks:=ks) (o:=o) (t:=t) hh (Hw la) hb hd' S.fits S.up) ⟨⟨_,Hs _ rfl,rfl,rfl⟩,S.keep λ o e=>Hr _ e⟩
   ·rw[HJ]
    rcases mN hb with e | e
    ·rw[e];exact Iy _
    ·rw[e];exact Il la
   ·rw[HJ] at hb
    rcases mN hm with e | e
    ·rw[e] at hb;exact JP _ hb
    ·rw[e] at hb;exact HG _ (HQ la (Jt hb))
   ·rcases mN hb with e | e
    ·exact .inr (by rw[e];exact Hn _)
    ·exact .inl e
   ·funext i v;simp
theorem By {Q:Bool->Shared->Prop} (hT:s.TypeIs (.ref a) "set") (q:Q false s):wpAny (model prog w) A (Builtin.List.listLengthHint (.ref a)) Q E s:=by
 unfold Builtin.List.listLengthHint;refine J7 (wpAny_specialOf hT PySem.F.slot_set_len.lookup ?_);generalize hid:("set.__len__" : String)=id0
 wp_delta
 rw[show splitId id0=some ("set", "__len__") from by subst hid;decide];subst hid;refine J7 (Ks (T := "set") (b:=true) hT sub_set_self ?_);refine KA (λ hab=>absurd hab ⋯) (λ _=>?_);refine KA (λ _=>?_) (λ hab=>absurd ⋯ hab);refine J7 (Kp hT ?_);exact J8 q
end
open PySem.Calls PySem.W
section
variable {prog:Program}{w:World}{K:Type}[DecidableEq K]{knd:KeyKind prog w K}
variable {A:Around}{E:AT}{s:Shared}{a:Addr}{ks:List K}{o:Obj}{es:Array (Int×Value)}{ep:Nat}{t:SetTable}
theorem v9 {P:Nat->Value->Prop}{got:Array Value}(hc:Comes es P)(hi:ItemsOf P got es.size):∃l:List (Int×Value),l.Perm es.toList/\got.toList=l.map (·.2):=by
 obtain⟨l,hp,rfl⟩:=hc;exists l,hp;have hl:l.length=es.size:=by rw[hp.length_eq,Ih]
 refine List.ext_getElem? λ i=>?_
 rw[HC];by_cases h:i<es.size
 ·have e1:got.toList[i]?=some (got[i]'(by rw[hi.1];exact h)):=by simp[hi.1,h]
  obtain⟨e,he,hv⟩:=hi.2 i _ (by rw[<-Jn];exact e1);rw[e1,he,<-hv];rfl
 ·rw[Je (by rw[Ih,hi.1];omega),Je ⋯];rfl
theorem yq {R:Result->Shared->Prop}(hh:A.handled=none)(S:dN knd s.heap a ks o es ep t)(L:Addr)(hLa:L≠a)(hL:s.heap.get? L=some { cls:=.type "list",data:=.seq #[] 0 })(res:Value)
  (fin:∀(g:Heap) (tk:Nat) (d:_) (got:Array Value) (c:Nat),(∀b o,b≠L->s.heap.get? b=some o->g.get? b=some o)->g.get? L=some { cls:=.type "list",dict:=none,data:=.seq got c,slots:=#[] } ->
   (∃l:List (Int×Value),l.Perm es.toList/\got.toList=l.map (·.2))->R (.ok (.ret res)) { s with heap:=g,toks:=tk,drawn:=d }) :
  wpAny (model prog w) A.in1 (Builtin.List.listExtendWith (.ref L) (.ref a) res)
   (λ fin s'=>match fin with | .done f=>R (.ok f) s' | .again c'=>c'.quiet=true/\codeAny (model prog w) A c' R s') (λ e s'=>R (.error e) s') s:=by
 have hz:es.size<=sizeLine:=fits_of_scanBound S.bV;unfold Builtin.List.listExtendWith;refine J7 (Kp S.typeIs ?_);have h1:Builtin.List.listSameRef (.ref L) (.ref a)=false:=by simp[Builtin.List.listSameRef,hLa]
 rw[h1];have h2:(Value.type "set" == Value.type "list")=false:=by decide
 have h3:(Value.type "set" == Value.type "tuple")=false:=by decide
 rw[h2,h3];rw[if_neg ⋯];refine J7 (Bx (A:=A.in1) hh S λ I h1 d fp P St keep hI hfp hnew hof hc W st=>?_);have hLlt:L<s.heap.objs.size:=Hq hL;have hLf:L∉fp:=λ hm=>by
  rcases hof L hm with e | e
  ·exact hLa e
  ·exact HG _ (HQ hLlt e)
 have hLI:L≠I:=λ e=>HG _ (HQ hLlt (e ▸ hI))
 have Wk:=W A.in1 hh;have loop:∀(g:Heap) (c tk:Nat),St 0 g->(∀b o,b≠L->s.heap.get? b=some o->g.get? b=some o)->g.get? L=some { cls:=.type "list",data:=.seq #[] c } ->
   codeAny (model prog w) A (.builtin "list.extend.loop" ⟨[.ref L,.ref I,res],[]⟩) R { s with heap:=g,toks:=tk,drawn:=d }:=by
  intro g c tk st' kp gL;refine codeAny_extend_loopS Wk.toS hz L hLf res es.size 0 _ #[] c rfl (HL _) st' gL (ItemsOf.nil _) λ s' got c' mv gL' its=>?_
  have e:=Moved.eq_with mv;rw[e];refine fin s'.heap s'.toks d got c' (λ b o hb e=>mv.heap b o (λ hm=>?_) (kp b o hb e)) gL' (v9 hc its)
  rcases Ho.mp hm with e' | hm
  ·exact hb e'
  ·rw[Hm] at hm;subst hm;exact HG _ (HQ (Hq e) hI)
 have gL1:=keep _ _ hL;refine J7 (Kb (By ⟨o,keep _ _ S.at_,S.ex.1⟩ ?_));refine KA (λ _=>?_) (λ _=>J8 ⟨plainId_quiet PySem.F.plain_extend_loop _,loop _ 0 _ st (λ b o _ e=>keep b o e) gL1⟩);refine J7 (Kf ?_);refine J7 ?_;show wpAny _ _ (updateSeq L (·.push .none) >>= λ _=>updateSeq L (·.pop)) _ _ _;refine J7 (wpAny_updateSeq gL1 rfl ?_);have gL2:=IA (Obj.mapSeq (·.push Value.none)) gL1 rfl;refine wpAny_updateSeq (hz:=by seq_fits) gL2 rfl ?_;have gL3:=IA (Obj.mapSeq (·.pop)) gL2 rfl;refine J8 ⟨plainId_quiet PySem.F.plain_extend_loop _,loop _ _ _ ?_ (λ b o hb e=>?_) gL3⟩
 ·refine Wk.frame 0 _ _ st λ b hb o e=>?_
  have hbL:b≠L:=λ h=>hLf (h ▸ hb)
  exact (IE _ _ (Ne.symm hbL)).trans ((IE _ _ (Ne.symm hbL)).trans e)
 ·exact (IE _ _ (Ne.symm hb)).trans ((IE _ _ (Ne.symm hb)).trans (keep b o e))
theorem p9 {G:List Value->Shared->Prop}(calm:A.handled=none)(S:dN knd s.heap a ks o es ep t)
  (fin:∀(g:Heap) (tk:Nat) (d:_) (got:Array Value),(∀b o,s.heap.get? b=some o->g.get? b=some o)->(∃l:List (Int×Value),l.Perm es.toList/\got.toList=l.map (·.2))->s.heap.objs.size<=g.objs.size->G got.toList { s with heap:=g,toks:=tk,drawn:=d }) :
  wpAny (model prog w) A (collect (.ref a)) G E s:=by
 have la:a<s.heap.objs.size:=Hq S.at_;unfold collect;refine J7 (wpAny_runValue (Kh entry_proto_collect' ?_));rw[IJ PySem.F.plain_proto_collect _];show wpAny _ A.in1 (newList [] >>= λ z=>again (.builtin "list.__iadd__" ⟨[z,.ref a],[]⟩)) _ _ s;refine J7 (Ke (J8 ⟨plainId_quiet PySem.F.plain_list_iadd _,Kh entry_list_iadd' ?_⟩));rw[IJ PySem.F.plain_list_iadd _];show wpAny _ A.in1 (Builtin.List.listExtendWith (.ref s.heap.objs.size) (.ref a) (.ref s.heap.objs.size)) _ _ _;have made:(s.heap.push { cls:=.type "list",data:=.seq ([]:List Value).toArray }).get? s.heap.objs.size=some { cls:=.type "list",data:=.seq #[] 0 }:=Hs _ rfl;have run:=yq (A:=A) (s:={ s with heap:=s.heap.push { cls:=.type "list",data:=.seq ([]:List Value).toArray } })
  (R:=λ (z:Result) (t:Shared)=>∃(g:Heap) (tk:Nat) (d:_) (got:Array Value) (c:Nat),z=.ok (.ret (.ref s.heap.objs.size))/\t={ s with heap:=g,toks:=tk,drawn:=d } /\
   (∀b o,s.heap.get? b=some o->g.get? b=some o)/\g.get? s.heap.objs.size=some { cls:=.type "list",dict:=none,data:=.seq got c,slots:=#[] }/\∃l:List (Int×Value),l.Perm es.toList/\got.toList=l.map (·.2))
  calm (S.keep λ o e=>Hr _ e) s.heap.objs.size (Iv la) made (.ref s.heap.objs.size)
  (λ g tk d got c kept at_ its=>⟨g,tk,d,got,c,rfl,rfl,λ b o e=>kept b o (Hw (Hq e)) (Hr _ e),at_,its⟩)
 refine J9 run (λ z t x=>?_) λ z t ⟨_,_,_,_,_,bad,_⟩=>by cases bad
 cases z with
 | done f =>
  obtain⟨g,tk,d,got,c,e,rfl,kept,at_,its⟩:=x;cases e;show wpAny _ A (load s.heap.objs.size >>= _) _ _ _;exact J7 (wpAny_load at_ (J8 (fin g tk d got kept its (HZ (Hq at_)))))
 | again more =>
  refine⟨x.1,Kk x.2 λ z' t' ⟨g,tk,d,got,c,e1,e2,kept,at_,its⟩=>?_⟩;subst e1 e2;show wpAny _ A (load s.heap.objs.size >>= _) _ _ _;exact J7 (wpAny_load at_ (J8 (fin g tk d got kept its (HZ (Hq at_)))))
end
end LS
namespace L2
open PySem PySem.Spec PyProof.Rows LS
theorem wa {P:Program}{w:World}{i:Int}{v:Value}(h:(ba P w).is (Sum.inl i) v=true):∃t,v=.int i t:=by
 rcases de (show iI (Sum.inl i) v=true from h) with ⟨j,t,e,rfl⟩ | ⟨x,t,e,rfl⟩
 ·cases e;exact⟨t,rfl⟩
 ·cases e
def qd (m:List Key):List Str:=m.filterMap λ k=>match k with | .inr x=>some x | .inl _=>none
def qe (m:List Key):List Int:=m.filterMap λ k=>match k with | .inl x=>some x | .inr _=>none
theorem zK (ss:List Str):qd (ss.map Sum.inr)=ss:=by
 induction ss with
 | nil=>rfl
 | cons x ss ih=>show x::qd (ss.map Sum.inr)=x::ss;rw[ih]
theorem zL (ss:List Int):qe (ss.map Sum.inl)=ss:=by
 induction ss with
 | nil=>rfl
 | cons x ss ih=>show x::qe (ss.map Sum.inl)=x::ss;rw[ih]
theorem Bz {m:List Key}{ss:List Str}(p:m.Perm (ss.map Sum.inr)):m=(qd m).map Sum.inr/\(qd m).Perm ss:=by
 refine⟨?_,by have:=p.filterMap (λ k:Key=>match k with | .inr x=>some x | .inl _=>none);rw[show List.filterMap _ (ss.map Sum.inr)=ss from zK ss] at this;exact this⟩;have hall:∀k∈m,∃x,k=Sum.inr x:=λ k hk=>by
  obtain⟨x,_,rfl⟩:=HE.mp (p.mem_iff.mp hk);exact⟨x,rfl⟩
 clear p
 induction m with
 | nil=>rfl
 | cons k m ih =>
  obtain⟨x,rfl⟩:=hall k (Hv ..);have:=ih λ k hk=>hall k (Hx _ hk)
  show Sum.inr x::m=Sum.inr x::(qd m).map Sum.inr;rw[<-this]
theorem BA {m:List Key}{ss:List Int}(p:m.Perm (ss.map Sum.inl)):m=(qe m).map Sum.inl/\(qe m).Perm ss:=by
 refine⟨?_,by have:=p.filterMap (λ k:Key=>match k with | .inl x=>some x | .inr _=>none);rw[show List.filterMap _ (ss.map Sum.inl)=ss from zL ss] at this;exact this⟩;have hall:∀k∈m,∃x,k=Sum.inl x:=λ k hk=>by
  obtain⟨x,_,rfl⟩:=HE.mp (p.mem_iff.mp hk);exact⟨x,rfl⟩
 clear p
 induction m with
 | nil=>rfl
 | cons k m ih =>
  obtain⟨x,rfl⟩:=hall k (Hv ..);have:=ih λ k hk=>hall k (Hx _ hk)
  show Sum.inl x::m=Sum.inl x::(qe m).map Sum.inl;rw[<-this]
section
variable {prog:Program}{w:World}{A:Around}{E:AT}{s:Shared}{a:Addr}{ks:List Key}{o:Obj}{es:Array (Int×Value)}{ep:Nat}{t:SetTable}
theorem vf {got:List Value}(S:LS.dN (ba prog w) s.heap a ks o es ep t)(h:∃l:List (Int×Value),l.Perm es.toList/\got=l.map (·.2)):∃m:List Key,m.Perm ks/\Paired (λ v k=>(ba prog w).is k v=true) got m:=by
 obtain⟨l,hp,rfl⟩:=h;obtain⟨ls,q1,q2⟩:=S.ents;obtain⟨m,m1,m2⟩:=j3 hp q2;exists m,m1.trans q1;clear hp q2 m1
 induction m2 with
 | nil=>exact .nil
 | cons r _ ih=>exact .cons r.1 ih
theorem mO:∀{got:List Value} {ss:List Str},Paired (λ v k=>(ba prog w).is k v=true) got (ss.map Sum.inr)->StrsAre got ss
 | _,[],.nil=>.nil
 | _,x::ss,.cons r t=>by
  obtain⟨t',rfl⟩:=j2 r;exact .cons x t' (mO t)
theorem mP:∀{got:List Value} {ss:List Int},Paired (λ v k=>(ba prog w).is k v=true) got (ss.map Sum.inl)->IntsAre got ss
 | _,[],.nil=>.nil
 | _,x::ss,.cons r t=>by
  obtain⟨t',rfl⟩:=wa r;exact .cons x t' (mP t)
theorem wb {ss:List Str}{Q:AT}(hh:A.handled=none)(S:LS.dN (ba prog w) s.heap a (ss.map Sum.inr) o es ep t)(h64:ss.length<64)
  (q:∀(h':Heap) (tk:Nat) (d:_) (D:Addr) (out:Array Value) (ss':List Str) (e:Nat),(∀b o,s.heap.get? b=some o->h'.get? b=some o)->s.heap.objs.size<=D->h'.get? D=some { cls:=.type "list",data:=.seq out e } ->
   StrsAre out.toList ss'->ss'.Perm ss->sortedS ss' = true->Q (.ref D) { s with heap:=h',toks:=tk,drawn:=d }) :
  wpAny (model prog w) A (call (.builtin "sorted") [.ref a]) Q E s:=by
 refine Calls.call_function_entry kind_sorted plain_sorted entry_sorted (args_sorted1 _) ?_;unfold Builtin.«sorted»;refine J7 (m:=checkCount "sorted" 1 1 _) (J8 ?_);refine J7 (p9 (A:=A.in1) hh S λ h' tk d acc hkeep hacc hsz=>?_);obtain⟨m,m1,m2⟩:=vf S hacc;obtain⟨e1,p1⟩:=Bz m1;rw[e1] at m2;have hS:=mO m2;have hl:acc.toList.length<64:=by rw[m2.length,Hk,p1.length_eq];exact h64
 refine J7 (wpAny_newList ?_ (Hu (HZ hl) ⋯));have hoL:(h'.push (seqObj "list" acc.toList.toArray 0)).get? h'.objs.size=some (seqObj "list" acc.toList.toArray 0):=Hs _ rfl;refine J7 (Kb (Kc slot_list_sort ⟨_,hoL,rfl⟩ entry_list_sort (list_sort_treeK strKind_oneLt hoL hS.keysOf (λ v₁ v₂ rest e=>keyKind_strs (by rw[<-e];exact hS)) hl λ st' a1 a2=>⟨_,rfl,?_⟩) (args_list_sort _)));obtain⟨ss',b1,b2,b3⟩:=sorted_out_str hS a1 a2;obtain⟨e,he⟩:=sortedHeap_at (out:=(arrOf st').map (·.2)) hoL;refine J8 ⟨_,rfl,q _ tk d _ _ ss' e (λ b o ho=>?_) hsz he b1 (b2.trans p1) b3⟩;have h1:=hkeep b o ho;have hlt:=Hq h1;rw[sortedHeap_old (Hw hlt) (by rw[size_push'];exact Il hlt)];exact Hr _ h1
theorem wc {ss:List Int}{Q:AT}(hh:A.handled=none)(S:LS.dN (ba prog w) s.heap a (ss.map Sum.inl) o es ep t)(h64:ss.length<64)
  (q:∀(h':Heap) (tk:Nat) (d:_) (D:Addr) (out:Array Value) (ss':List Int) (e:Nat),(∀b o,s.heap.get? b=some o->h'.get? b=some o)->s.heap.objs.size<=D->h'.get? D=some { cls:=.type "list",data:=.seq out e } ->
   IntsAre out.toList ss'->ss'.Perm ss->ss'.Pairwise (· <= ·)->Q (.ref D) { s with heap:=h',toks:=tk,drawn:=d }) :
  wpAny (model prog w) A (call (.builtin "sorted") [.ref a]) Q E s:=by
 refine Calls.call_function_entry kind_sorted plain_sorted entry_sorted (args_sorted1 _) ?_;unfold Builtin.«sorted»;refine J7 (m:=checkCount "sorted" 1 1 _) (J8 ?_);refine J7 (p9 (A:=A.in1) hh S λ h' tk d acc hkeep hacc hsz=>?_);obtain⟨m,m1,m2⟩:=vf S hacc;obtain⟨e1,p1⟩:=BA m1;rw[e1] at m2;have hS:=mP m2;have hl:acc.toList.length<64:=by rw[m2.length,Hk,p1.length_eq];exact h64
 refine J7 (wpAny_newList ?_ (Hu (HZ hl) ⋯));have hoL:(h'.push (seqObj "list" acc.toList.toArray 0)).get? h'.objs.size=some (seqObj "list" acc.toList.toArray 0):=Hs _ rfl;refine J7 (Kb (Kc slot_list_sort ⟨_,hoL,rfl⟩ entry_list_sort (list_sort_tree hoL hS hl λ out ss' b1 b2 b3=>⟨_,rfl,?_⟩) (args_list_sort _)));obtain⟨e,he⟩:=sortedHeap_at (out:=out) hoL;refine J8 ⟨_,rfl,q _ tk d _ _ ss' e (λ b o ho=>?_) hsz he b1 (b2.trans p1) b3⟩;have h1:=hkeep b o ho;have hlt:=Hq h1;rw[sortedHeap_old (Hw hlt) (by rw[size_push'];exact Il hlt)];exact Hr _ h1
end
def cV (P:Program)(w:World)(a:Addr)(ks:List Key):HO:=.ext λ h=>e7 (ba P w) h a ks
theorem kH {P:Program}{w:World}{H:Hp}{h:Heap}{a:Addr}{ks:List Key}(S:e7 (ba P w) h a ks):b0 P w H h a (cV P w a ks) :=
 ⟨S,let ⟨o,_,_,_,S⟩:=S;⟨o,S.at_⟩,λ h1 h2 S k=>S.keep k⟩
section
variable {X:Cx}{pins:BT}{Hh : List (Option V)}{H:Hp}{s:Shared}
theorem Inv.rp {a:Addr}{ks:List Key}(I:Inv X pins Hh H s)(h:H a=some (cV X.prog X.w a ks)):e7 (ba X.prog X.w) s.heap a ks:=(I.bc a _ h).1
theorem Inv.xb {d:_}(I:Inv X pins Hh H s):Inv X pins Hh H { s with drawn:=d }:=⟨I.ok,I.os,I.bare,I.base,I.loc,I.cell,I.free,I.fD,I.pin,I.bc,I.len⟩
theorem tV (hc:X.calm=true):eR X (.builtin "sorted") (λ vs H Q=>∃(a:Addr) (ss:List Str),vs=[.ref a]/\H a=some (cV X.prog X.w a (ss.map Sum.inr))/\ss.length<64 /\
  ∀(l:Addr) (ss':List Str),ss'.Perm ss->sortedS ss' = true->H l=none->Q (.ref l) (upd H l (.lst (ss'.map V.str)))):=by
 intro pins s Hh H xs us Q I r h;obtain⟨a,ss,rfl,ha,h64,q⟩:=h;obtain⟨u,rfl,ru⟩:=vals1 r;cases (show u=Value.ref a from ru);obtain⟨o,es,ep,t,S⟩:=I.rp ha;refine wb (I.ok.hd hc) S h64 λ h' tk d D out ss' e hkeep hD he hS hp hs=>?_
 have hv:Vals (ss'.map V.str) out.toList:=rh hS;refine⟨.ref D,_,(I.xb (d:=d)).laid (t':=tk) (o:=.lst (ss'.map V.str)) hkeep hD (show b0 X.prog X.w _ h' _ (.lst (ss'.map V.str)) from ⟨?_,out.toList,e,hv,by simpa using he⟩),rfl,q D ss' hp hs (I.bc.fresh hD)⟩;rw[Hk,hp.length_eq];exact Hu (HZ h64) ⋯
theorem lY (hc:X.calm=true):eR X (.builtin "sorted") (λ vs H Q=>∃(a:Addr) (ss:List Int),vs=[.ref a]/\H a=some (cV X.prog X.w a (ss.map Sum.inl))/\ss.length<64 /\
  ∀(l:Addr) (ss':List Int),ss'.Perm ss->ss'.Pairwise (· <= ·)->H l=none->Q (.ref l) (upd H l (.lst (ss'.map V.int)))):=by
 intro pins s Hh H xs us Q I r h;obtain⟨a,ss,rfl,ha,h64,q⟩:=h;obtain⟨u,rfl,ru⟩:=vals1 r;cases (show u=Value.ref a from ru);obtain⟨o,es,ep,t,S⟩:=I.rp ha;refine wc (I.ok.hd hc) S h64 λ h' tk d D out ss' e hkeep hD he hS hp hs=>?_
 have hv:Vals (ss'.map V.int) out.toList:=mG hS;refine⟨.ref D,_,(I.xb (d:=d)).laid (t':=tk) (o:=.lst (ss'.map V.int)) hkeep hD (show b0 X.prog X.w _ h' _ (.lst (ss'.map V.int)) from ⟨?_,out.toList,e,hv,by simpa using he⟩),rfl,q D ss' hp hs (I.bc.fresh hD)⟩;rw[Hk,hp.length_eq];exact Hu (HZ h64) ⋯
end
end L2
namespace LS
open PySem PySem.Spec PyProof.Rows L2
section
variable {K:Type}[DecidableEq K]
def putIn (acc:List K)(k:K):List K:=if k∈acc then acc else acc++[k]
def eG (ms:List K):List K:=ms.foldl putIn []
theorem iT {acc:List K}{k x:K}:x∈putIn acc k↔x∈acc\/x=k:=by
 unfold putIn;split
 ·rename_i h
  exact⟨.inl,λ z=>z.elim id (λ e=>e ▸ h)⟩
 ·simp
theorem zM (acc:List K)(k:K):(putIn acc k).length<=acc.length+1:=by unfold putIn;split<;>simp
theorem vg:∀(ms acc:List K) (x:K),x∈ms.foldl putIn acc↔x∈acc\/x∈ms
 | [],acc,x=>by simp
 | k::ms,acc,x=>by
  rw[I0,vg ms,iT];simp[or_assoc]
theorem sO {ms:List K}{x:K}:x∈eG ms↔x∈ms:=by unfold eG;rw[vg];simp
theorem vh:∀(ms acc:List K),(ms.foldl putIn acc).length<=acc.length+ms.length
 | [],acc=>by simp
 | k::ms,acc=>by
  rw[I0];have:=vh ms (putIn acc k);have:=zM acc k;simp only[HX];omega
theorem xc:∀(ms acc:List K),acc.Nodup->(ms.foldl putIn acc).Nodup
 | [],acc,h=>h
 | k::ms,acc,h=>by
  rw[I0];refine xc ms _ ?_;unfold putIn;split
  ·exact h
  ·rename_i hn
   rw[IV];exact⟨h,by simp,λ a ha b hb e=>hn (by rw[Hm] at hb;rw[<-hb,<-e];exact ha)⟩
theorem vi (ms:List K):(eG ms).Nodup:=xc ms [] Jd
end
section
variable {prog:Program}{w:World}{A:Around}{E:AT}{s:Shared}
theorem vj {k:Key}{v:Value}(h:(ba prog w).is k v=true):v.scannable=true:=by
 rcases de (show iI k v=true from h) with ⟨j,t,_,rfl⟩ | ⟨x,t,_,rfl⟩<;>rfl
theorem rA {a:Addr}{ks:List Key}{k:Key}{v:Value}{Q:Bool->Shared->Prop}(hk:(ba prog w).is k v=true)(S:e7 (ba prog w) s.heap a ks)(room:ks.length+1<scanBound)
  (q:∀h',HR a s.heap h'->e7 (ba prog w) h' a (putIn ks k)->∀c:Bool,Q c { s with heap:=h',toks:=s.toks+1 }):wpAny (model prog w) A (setAdd a v) Q E s:=by
 unfold setAdd;refine Kb ?_;refine J7 ((ba prog w).pyHash hk ?_);exact ym (s:={ s with toks:=s.toks+1 }) hk (vj hk) S room λ h' b S'=>q h' b S' _
theorem BB {a:Addr}{ks:List Key}{k:Key}{v:Value}{Q:AT}(hk:(ba prog w).is k v=true)(S:e7 (ba prog w) s.heap a ks)(room:ks.length+1<scanBound)
  (q:∀h',HR a s.heap h'->e7 (ba prog w) h' a (putIn ks k)->Q .none { s with heap:=h',toks:=s.toks+1 }):wpAny (model prog w) A (call (.builtin "set.add") [.ref a,v]) Q E s:=by
 refine Kc PySem.F.slot_set_add S.setOf.typeIs PySem.F.entry_set_add ?_ (PySem.F.args_set_add_2 _ _);unfold Builtin.«set.add» Builtin.Frozenset.oneOther;simp only[List.isEmpty_nil,bind_assoc];unfold Builtin.Frozenset.addrOf;refine J7 (J8 ?_);refine J7 (J8 ?_);refine J7 (rA hk S room λ h' b S' _=>?_);exact J8 ⟨_,rfl,q h' b S'⟩
theorem zN {I L:Addr}{fp wr:List Addr}{G:Array GenState->Array GenState->Prop}{n:Nat}{P:Nat->Value->Prop}{St:Nat->Shared->Prop}{R:Result->Shared->Prop}(W:WalksS prog w A.in1 I fp wr G n P St)(hLf:L∉fp)
  (ms:List Key) (hl:ms.length=n) (hm:∀i v,P i v->∃k,ms[i]?=some k/\(ba prog w).is k v=true) (hb:n+1<scanBound) :
  ∀(k i:Nat) (s:Shared),n-i=k->i<=n->St i s->e7 (ba prog w) s.heap L (eG (ms.take i)) ->
   (∀s',Moved (L::wr) G s s'->e7 (ba prog w) s'.heap L (eG ms)->R (.ok (.ret .none)) s') ->
   codeAny (model prog w) A (.builtin "set.update.loop" ⟨[.ref L,.ref I],[]⟩) R s:=by
 have hLw:L∉wr:=λ h=>hLf (W.sub _ h)
 intro k
 induction k with
 | zero =>
  intro i s hk hi st S q;have e:i=n:=by omega
  subst e;refine Kh PyProof.Rows.F.entry_set_update_loop ?_;rw[IJ PyProof.Rows.F.plain_set_update_loop _];show wpAny _ A.in1 (pyNext (.ref I) >>= _) _ _ s;refine J7 (W.done s _ _ st λ s' mv=>?_);refine J8 (q s' (mv.mono λ b hb=>Hx _ hb) ?_);rw[Jr ⋯] at S;exact S.keep λ o e=>mv.heap L _ hLw e
 | succ k ih =>
  intro i s hk hi st S q;have hlt:i<n:=by omega
  refine Kh PyProof.Rows.F.entry_set_update_loop ?_;rw[IJ PyProof.Rows.F.plain_set_update_loop _];show wpAny _ A.in1 (pyNext (.ref I) >>= _) _ _ s;refine J7 (W.item i s _ _ hlt st λ v s' hP st' mv=>?_);obtain⟨key,hkey,his⟩:=hm i v hP;have S':e7 (ba prog w) s'.heap L (eG (ms.take i)):=S.keep λ o e=>mv.heap L _ hLw e
  refine J7 (Kb (rA his S' ?_ λ h' sb S2 _=>?_))
  ·have h1:=vh (ms.take i) [];have h2:(ms.take i).length<=i:=by rw[HP];omega
   have h3:(eG (ms.take i)).length<=0+(ms.take i).length:=h1;omega
  ·have e1:putIn (eG (ms.take i)) key=eG (ms.take (i+1)):=by
    unfold eG;rw[HM,hkey,JQ];rfl
   rw[e1] at S2;refine J8 ⟨plainId_quiet PyProof.Rows.F.plain_set_update_loop _,ih (i+1) _ ⋯ hlt (W.frame _ s' _ _ st' (Ip _) λ b hb o e=>?_) S2 λ s'' mv2 S3=>?_⟩
   ·rw[sb.2 b (λ h:b=L=>hLf (by rw[<-h];exact hb))];exact e
   ·refine q s'' (Moved.trans W.gtrans ((mv.mono λ b hb=>Hx _ hb).then_heap (Ip _) λ b o hb e=>?_) mv2) S3;rw[sb.2 b (λ h:b=L=>hb (by rw[h];exact Hv))];exact e
end
theorem lr {α β : Type}{F:α->β->Prop}:∀{l:List α} {m:List β},Paired F l m->∀{i:Nat} {x:α},l[i]?=some x->∃y,m[i]?=some y/\F x y
 | _,_,.nil,i,x,e=>by simp at e
 | _,_,.cons r _,0,x,e=>by simp at e;subst e;exact⟨_,rfl,r⟩
 | _,_,.cons _ t,i+1,x,e=>by simpa using lr t (i:=i) (x:=x) (by simpa using e)
def dn (w:World):Obj:={ cls:=.type "set",dict:=none,data:=.set #[] 0 (.fresh 0 0 (!(w.params.followText "set-order"))) }
section
variable {prog:Program}{w:World}{A:Around}{E:AT}{s:Shared}
theorem zO (rest:List Value) (hc:checkBuiltinCall "set.__new__" ⟨.type "set" :: rest,[]⟩=pure ()) {Q:AT} (q:Q (.ref s.heap.objs.size) { s with heap:=s.heap.push (dn w) }) :
  codeAny (model prog w) A (.call (.builtin "set.__new__") ⟨.type "set" :: rest,[]⟩) (wants Q E) s:=by
 refine codeAny_of_tree ?_;show wpAny _ A.in1 (checkBuiltinCall "set.__new__" ⟨.type "set" :: rest,[]⟩ >>= λ _=>again (.builtin "set.__new__" ⟨.type "set" :: rest,[]⟩)) _ _ s;refine J7 (wpAny_of_eq hc (J8 ⟨plainId_quiet PySem.F.plain_set_new _,Kh PySem.F.entry_set_new ?_⟩));rw[IJ PySem.F.plain_set_new _];unfold Builtin.«set.__new__» Builtin.Frozenset.newClass;have hsub:=sub_set_self;obtain⟨hp,g,d,tk,os⟩:=s;dsimp only
 wp_walk
 refine Kz (J8 ?_);dsimp only;simp only[newObj];refine J7 (Kx (J8 ?_));exact J8 q
theorem vk {rest:List Value} {Q:AT} (hct:checkTypeCall "set" ⟨rest,[]⟩=pure ()) (hcn:checkBuiltinCall "set.__new__" ⟨.type "set" :: rest,[]⟩=pure ())
  (hci:∀(M:Model) (A:Around) (E:AT) (s':Shared) (Q':Unit->Shared->Prop),s'.TypeIs (.ref s.heap.objs.size) "set" -> Q' () s'->wpAny M A (checkBuiltinCall "set.__init__" ⟨.ref s.heap.objs.size::rest,[]⟩) Q' E s')
  (init:∀(R:Result->Shared->Prop),(∀h' tk,(∀b o,s.heap.get? b=some o->h'.get? b=some o)->Q (.ref s.heap.objs.size) { s with heap:=h',toks:=tk }->R (.ok (.ret .none)) { s with heap:=h',toks:=tk }) ->
   wpAny (model prog w) A.in1.in1 (Builtin.«set.__init__» ⟨.ref s.heap.objs.size::rest,[]⟩) (λ fin s'=>match fin with | .done f=>R (.ok f) s' | .again c'=>c'.quiet=true/\codeAny (model prog w) A.in1 c' R s') (λ e s'=>R (.error e) s')
    { s with heap:=s.heap.push (dn w) }) :
  wpAny (model prog w) A (call (.type "set") rest) Q E s:=by
 obtain⟨c,tl,hmro⟩:=PySem.F.called_set.mro;have hmade:=PySem.F.called_set.made;have hsub:=PySem.F.called_set.sub;refine wpAny_call (codeAny_of_tree ?_);show wpAny _ _ (callAny (.type "set") _) _ _ _;refine J8 ⟨Code.quiet_builtin _ ⋯,Kh PySem.F.entry_type_call ?_⟩;rw[Around.under_plain (weight_type_call_type "set" rest []) rfl];have h1:=PySem.F.called_set.notType;have h2:=PySem.F.called_set.canCreate
 repeat (any_goals (first | assumption | wp_step))
 refine Kk (zO (w:=w) rest hcn (E:=E) (Q:=λ obj s₁=>obj=.ref s.heap.objs.size/\s₁ = { s with heap:=s.heap.push (dn w) }) ⟨rfl,rfl⟩) λ r s₁ hr=>?_
 cases r with
 | error e=>exact hr
 | ok fl =>
  cases fl with
  | ret obj =>
   obtain⟨rfl,rfl⟩:=hr;have hS:(s.heap.push (dn w)).get? s.heap.objs.size=some (dn w):=Hs _ rfl;have hT:Shared.TypeIs { s with heap:=s.heap.push (dn w) } (.ref s.heap.objs.size) "set" := ⟨_,hS,rfl⟩;have hli:=PySem.F.called_set.init.lookup;have hbi:=PySem.F.called_set.init.bind (.ref s.heap.objs.size)
   repeat (any_goals (first | assumption | wp_step))
   refine Kk (codeAny_call_builtin (R:=wants (λ r s₂=>r=.none/\Q (.ref s.heap.objs.size) s₂) E) PySem.F.called_set.init.plain PySem.F.entry_set_init (hci _ _ _ _ _ hT (init _ λ h' tk _ q=>⟨rfl,q⟩))) λ r₂ s₂ hr₂=>?_
   cases r₂ with
   | error e=>exact hr₂
   | ok fl₂ =>
    cases fl₂ with
    | ret r =>
     obtain⟨rfl,hq⟩:=hr₂
     repeat (any_goals (first | assumption | wp_step))
    | _=>exact hr₂.elim
  | _=>exact hr.elim
theorem zP {Q:AT}(q:∀h',e7 (ba prog w) h' s.heap.objs.size []->(∀b o,s.heap.get? b=some o->h'.get? b=some o)->Q (.ref s.heap.objs.size) { s with heap:=h' }):wpAny (model prog w) A (call (.type "set") []) Q E s:=by
 refine vk PySem.F.typeCall_set_0 PySem.F.newCall_set_0 (λ M A E s' Q' hT q'=>check_set_init hT q') λ R fin=>?_
 have hS:(s.heap.push (dn w)).get? s.heap.objs.size=some (dn w):=Hs _ rfl;have hT:Shared.TypeIs { s with heap:=s.heap.push (dn w) } (.ref s.heap.objs.size) "set" := ⟨_,hS,rfl⟩;unfold dn at hS hT ⊢;unfold Builtin.«set.__init__» noKeywords
 wp_walk
 exact fin _ s.toks (λ b o e=>Hr _ e) (q _ (mL rfl hS) λ b o e=>Hr _ e)
theorem set_list {l:Addr}{items:Array Value}{ms:List Key}{Q:AT}(hh:A.handled=none)(hl:s.heap.IsList l items)(hm:Paired (λ v k=>(ba prog w).is k v=true) items.toList ms)(hb:items.size+1<scanBound)
  (q:∀h' tk,e7 (ba prog w) h' s.heap.objs.size (eG ms)->(∀b o,s.heap.get? b=some o->h'.get? b=some o)->Q (.ref s.heap.objs.size) { s with heap:=h',toks:=tk }):wpAny (model prog w) A (call (.type "set") [.ref l]) Q E s:=by
 refine vk (PySem.F.typeCall_set_1 _) (PySem.F.newCall_set_1 _) (λ M A E s' Q' hT q'=>check_set_init_1 hT q') λ R fin=>?_
 have hS:(s.heap.push (dn w)).get? s.heap.objs.size=some (dn w):=Hs _ rfl;have hT:Shared.TypeIs { s with heap:=s.heap.push (dn w) } (.ref s.heap.objs.size) "set" := ⟨_,hS,rfl⟩;have hz:(s.heap.push (dn w)).objs.size=s.heap.objs.size+1:=HJ _ _;obtain⟨ol,hol,hcl,nl,hdl⟩:=id hl;obtain⟨ocls,odict,odata,oslots⟩:=ol;simp only at hcl hdl;subst hcl;subst hdl;have hol':(s.heap.push (dn w)).get? l=some { cls:=.type "list",dict:=odict,data:=.seq items nl,slots:=oslots }:=Hr _ hol;have hsls:=PySem.F.sub_list_set;have hslf:=PySem.F.sub_list_frozenset;have hne:(Value.type "list" == Value.type "dict")=false:=by decide
 have hl1:(s.heap.push (dn w)).IsList l items:=⟨_,hol',rfl,nl,rfl⟩;have hlS:l<s.heap.objs.size:=Hq hol;unfold dn at hS hT hz hol' hl1 ⊢;unfold Builtin.«set.__init__» noKeywords Builtin.Frozenset.updateFrom;generalize hPI:pyIter=PI
 wp_walk
 subst hPI;refine KG hl1 ?_;refine J7 (wpAny_runValue ?_);have hh3:A.in1.in1.in1.handled=none:=by simp[hh]
 refine zN (L:=s.heap.objs.size) ((Walks.list hh3 _ l ?_ items).toS) ?_ ms ?_ (λ i v hv=>?_) hb (items.size-0) 0 _ ⋯ (HL _) ⟨⟨_,Hs _ rfl,rfl,rfl⟩,(hl1.push _)⟩ ?_ λ s' mv S'=>?_
 ·rw[hz];exact Hw (Il hlS)
 ·rw[hz];intro hmem
  rcases mN hmem with e | e
  ·exact absurd e (Hw (Iy _))
  ·exact absurd e (Iv hlS)
 ·rw[<-hm.length,Ih]
 ·have hv':items.toList[i]?=some v:=by rw[Jn];exact hv
  exact lr hm hv'
 ·exact mL rfl (Hr _ hS)
 ·obtain⟨h',g',d',tk',os'⟩:=s';have eg:g' = s.gens:=mv.gens;have ed:d' = s.drawn:=mv.drawn;have eo:os' = s.os:=mv.os;subst eg;subst ed;subst eo;have kp:∀b o,s.heap.get? b=some o->h'.get? b=some o:=λ b o e=>mv.heap b o (λ hm=>by
   rcases mN hm with e' | e'
   ·exact absurd e' (Hw (Hq e))
   ·rw[hz] at e';exact absurd e' (Hw (Il (Hq e)))) (Hr _ (Hr _ e))
  show wpAny _ _ _ _ _ _;refine J8 ?_;exact J8 (fin h' tk' kp (q h' tk' S' kp))
end
end LS
namespace L2
open PySem PySem.Spec PyProof.Rows LS
theorem zQ:bootBuiltins "set" = some (.type "set"):=by decide
theorem DC {K:Type}[DecidableEq K]{k:K}{ks:List K}:decide (k∈ks)=true↔k∈ks:=decide_eq_true_iff
theorem nL {P:Program}{w:World}{k:Key}{v:Value}(r:RelV (kV k) v):(ba P w).is k v=true:=by
 cases k with
 | inl i=>obtain⟨t,rfl⟩:=r;exact nZ P w i t
 | inr x=>obtain⟨t,rfl⟩:=r;exact n5 P w x t
theorem oy {P:Program}{w:World}:∀{ks:List Key} {us:List Value},Vals (ks.map kV) us->Paired (λ v k=>(ba P w).is k v=true) us ks
 | [],_,.nil=>.nil
 | k::ks,_,.cons r t=>.cons (nL r) (oy t)
section
variable {X:Cx}
theorem Inv.Hc {pins:BT}{Hh : List (Option V)}{H:Hp}{s:Shared}{n:Nat}(I:Inv X pins Hh H s):Inv X pins Hh H { s with toks:=n }:=⟨I.ok,I.os,I.bare,I.base,I.loc,I.cell,I.free,I.fD,I.pin,I.bc,I.len⟩
theorem zR:eR X (.type "set") (λ vs H Q=>vs=[]/\∀l,H l=none->Q (.ref l) (upd H l (cV X.prog X.w l []))):=by
 intro pins s Hh H xs us Q I r h;obtain⟨rfl,q⟩:=h;cases r;refine zP λ h' S kp=>?_
 exact⟨.ref s.heap.objs.size,_,I.laid (t':=s.toks) kp (Hn _) (kH S),rfl,q _ I.fresh⟩
theorem zS (hc:X.calm=true):eR X (.type "set") (λ vs H Q=>∃(p:Addr) (ks:List Key),vs=[.ref p]/\aT X.K H p (ks.map kV)/\ks.length+1<scanBound/\∀l,H l=none->Q (.ref l) (upd H l (cV X.prog X.w l (eG ks)))):=by
 intro pins s Hh H xs us Q I r h;obtain⟨p,ks,rfl,hp,hz,q⟩:=h;obtain⟨u,rfl,ru⟩:=vals1 r;cases (show u=Value.ref p from ru);obtain⟨its,hv,pl,_⟩:=I.list hp;have hm:=oy (P:=X.prog) (w:=X.w) hv;refine LS.set_list (I.ok.hd hc) pl.isList (by simpa using hm) (by have:=hm.length;simp at this ⊢;omega) λ h' tk S kp=>?_
 exact⟨.ref s.heap.objs.size,_,I.laid (t':=tk) kp (Hn _) (kH S),rfl,q _ I.fresh⟩
inductive GS (P:Program) (w:World) (neg:Bool) (x:V) (y:V) (H:Hp) (Q:VK):Prop
 | mk (a ks k:_) (_:y=.ref a) (_:H a=some (cV P w a ks)) (_:x=kV k) (_:∀b:Bool,(b=true↔k∈ks)->Q (.bl (if neg then !b else b)) H)
theorem zT:eJ X (compareOp .NotIn) (GS X.prog X.w true):=by
 intro pins s Hh H x y v u Q I rx ry h;obtain⟨a,ks,k,rfl,ha,rfl,q⟩:=h;cases ry;have hk:(ba X.prog X.w).is k v=true:=nL rx;have S:=(I.rp ha).setOf;exact wpAny_notInSet_of hk (vj hk) S ⟨.bl _,H,I.Hc,rfl,q _ DC⟩
def GU (P:Program)(w:World)(r:V->List V->Hp->VK->Prop)(to:TE)(t:TA):TE:=λ Hh H Q=>to Hh H λ x H1=>(∃a ks,x=.ref a/\H1 a=some (cV P w a ks))/\t Hh H1 λ xs H2=>r x xs H2 Q
variable {o e:Expr}{es:List Expr}{to:TE}{t:TA}{name:Str}{apos cpos:Pos}{id:String}{r:V->List V->Hp->VK->Prop}
theorem zU (slot:Slot "set" name id) (hty:typeOf (.builtin id)=pure (.type "method_descriptor")) (hm:uL X id r) (ho:PE X o to) (ha:PA X (e::es) t)
  (hbase:attributeBase o name X.env (eval o X.env)=eval o X.env:=by rfl)
  (hfew:((backTo cpos (starEach (e::es) X.env)).all (λ x=>!x.1)&&(backToKw cpos (keywordEach [] X.env)).all (λ x=>x.1.isSome)
   && decide ((e::es).length+([]:List Keyword).length+(if ([]:List Keyword).isEmpty then 0 else 1)<30))=true:=by rfl)
  (hline:(apos.endLine == cpos.line)=true:=by rfl) (hs:starEach (e::es) X.env=(false,eval e X.env)::starEach es X.env:=by rfl) (hplain:(backTo cpos (starEach es X.env)).any (·.1)=false:=by rfl) :
  PE X (.Call (.Attribute o name apos) (e::es) [] cpos) (GU X.prog X.w r to t):=by
 intro pins s Hh H Q I h;refine wpAny_Call_method_late hbase hfew hline rfl (bx (ho pins s Hh H _ I h) λ v s1 ⟨x,H1,I1,r1,ty,q1⟩=>?_);obtain⟨a,ks,rfl,hset⟩:=ty;cases (show v=Value.ref a from r1);have S:=(I1.rp hset).setOf;exists "set",id,PySem.F.plainAttrs_set,slot,hty,S.typeIs,S.noDict;have hA:=ha cpos pins s1 Hh H1 _ I1 q1;rw[hs] at hA ⊢;refine Calls.callWith_builtin (by show (false||(backTo cpos (starEach es X.env)).any (·.1))=false;rw[hplain]<;>rfl) (Calls.evalArgs_plain ?_);exact bx hA λ us s2 ⟨vs,H2,I2,r2,q2⟩=>hm pins s2 Hh H2 (.ref a) vs (.ref a) us Q I2 rfl r2 q2
inductive FN (P:Program) (w:World) (x:V) (vs:List V) (H:Hp) (Q:VK):Prop
 | mk (a ks k:_) (_:x=.ref a) (_:vs=[kV k]) (_:H a=some (cV P w a ks)) (_:ks.length+1<scanBound) (_:Q .aZ (upd H a (cV P w a (putIn ks k))))
theorem xf:uL X "set.add" (FN X.prog X.w):=by
 intro pins s Hh H x xs v us Q I rx r h;obtain⟨a,ks,k,rfl,rfl,ha,hz,q⟩:=h;cases (show v=Value.ref a from rx);obtain⟨u,rfl,ru⟩:=vals1 r;refine BB (nL ru) (I.rp ha) hz λ h' b S'=>?_
 refine⟨.aZ,_,I.write (t':=s.toks+1) (x:=a) (e:=a) (by rw[ha];exact trivial) (.inl rfl) (λ c u' hc hu=>b.extBut c u' hc hu) ?_ (kH S'),rfl,q⟩;obtain⟨o,_,_,_,So⟩:=S';exact⟨o,So.at_⟩
end
structure uw (K:Hl) (mg:Ch) (aD d0 d1 d2 d3 d4:Addr):Prop where
 tab:Bp K mg "DEED_PARTS" aD [("put",d0),("copy",d1),("add",d2),("read",d3),("tell",d4)]
 q0:KTup K d0 ["name", "number"]
 q1:KTup K d1 ["name", "name"]
 q2:KTup K d2 ["name", "number"]
 q3:KTup K d3 ["name"]
 q4:KTup K d4 ["name"]
def eO:cH->List Str
 | .put x _=>[x]
 | .copy x y=>[x,y]
 | .add x _=>[x]
 | .read x=>[x]
 | .tell x=>[x]
def jD:End->List Str
 | .aR _ x _ _ _=>[x]
 | _=>[]
def pNames (p:Piece):List Str:=p.1.flatMap eO++jD p.2
def b6 (ps:List Piece):List Str:=ps.flatMap pNames
def kD:cH->List Str
 | .put ..=>["name", "number"]
 | .copy ..=>["name", "name"]
 | .add ..=>["name", "number"]
 | .read ..=>["name"]
 | .tell ..=>["name"]
def wD:cH->Str
 | .put .. => "put"
 | .copy .. => "copy"
 | .add .. => "add"
 | .read .. => "read"
 | .tell .. => "tell"
theorem yr (d:cH):∃xs,uv d=.str (wD d)::xs/\xs.length<=1000/\pick "name" xs (kD d)=(eO d).map V.str:=by
 have h2:¬("number" : Str) = "name" := by decide
 cases d with
 | put x n=>exact⟨_,rfl,by show 2<=1000;decide,by simp[pick,kD,eO,h2]⟩
 | copy x y=>exact⟨_,rfl,by show 2<=1000;decide,by simp[pick,kD,eO]⟩
 | add x n=>exact⟨_,rfl,by show 2<=1000;decide,by simp[pick,kD,eO,h2]⟩
 | read x=>exact⟨_,rfl,by show 1<=1000;decide,by simp[pick,kD,eO]⟩
 | tell x=>exact⟨_,rfl,by show 1<=1000;decide,by simp[pick,kD,eO]⟩
theorem yt (e:End):∃xs,bR e=.str (wE e)::xs/\xs.length<=1000/\pick "name" xs (kE e)=(jD e).map V.str:=by
 have h1:¬("piece" : Str) = "name" := by decide
 have h2:¬("number" : Str) = "name" := by decide
 cases e with
 | stop=>exact⟨[],rfl,by decide,rfl⟩
 | go p=>exact⟨_,rfl,by show 1<=1000;decide,by simp[pick,kE,jD,h1]⟩
 | aR b x n p q=>exact⟨_,rfl,by show 4<=1000;decide,by simp[pick,kE,jD,h1,h2]⟩
theorem kJ {k:Str}{d:Addr}{D:List (Str×Addr)}:KTD.datumAt k ((k,d)::D)=some d:=by
 show (if decide (k=k)=true then some d else KTD.datumAt k D)=some d;rw[if_pos (decide_eq_true rfl)]
theorem fh {k x:Str}{d:Addr}{D:List (Str×Addr)}{o:Option Addr}(h:¬k=x)(e:KTD.datumAt k D=o):KTD.datumAt k ((x,d)::D)=o:=by
 show (if decide (k=x)=true then some d else KTD.datumAt k D)=o;rw[if_neg (by rw[decide_eq_false h];decide)];exact e
theorem uw.at_ {K:Hl}{mg:Ch}{aD d0 d1 d2 d3 d4:Addr}(G:uw K mg aD d0 d1 d2 d3 d4)(d:cH) :
  ∃s,KTD.datumAt (wD d) [(("put" : Str),d0),("copy",d1),("add",d2),("read",d3),("tell",d4)]=some s/\KTup K s (kD d):=by
 cases d with
 | put x n=>exact⟨d0,kJ,G.q0⟩
 | copy x y=>exact⟨d1,fh (show ¬(("copy" : Str) = "put") by decide) kJ,G.q1⟩
 | add x n=>exact⟨d2,fh (show ¬(("add" : Str) = "put") by decide) (fh (show ¬(("add" : Str) = "copy") by decide) kJ),G.q2⟩
 | read x=>exact⟨d3,fh (show ¬(("read" : Str) = "put") by decide) (fh (show ¬(("read" : Str) = "copy") by decide) (fh (show ¬(("read" : Str) = "add") by decide) kJ)),G.q3⟩
 | tell x=>exact⟨d4,fh (show ¬(("tell" : Str) = "put") by decide) (fh (show ¬(("tell" : Str) = "copy") by decide) (fh (show ¬(("tell" : Str) = "add") by decide) (fh (show ¬(("tell" : Str) = "read") by decide) kJ))),G.q4⟩
theorem BC (acc ys:List Str):(ys.map (Sum.inr:Str->Key)).foldl LS.putIn (acc.map Sum.inr)=(ys.foldl LS.putIn acc).map Sum.inr:=by
 induction ys generalizing acc with
 | nil=>rfl
 | cons y ys ih =>
  rw[HN,I0,I0,<-ih]
  congr 1
  unfold LS.putIn;by_cases h:y∈acc
  ·rw[if_pos h,if_pos (HE.mpr ⟨y,h,rfl⟩)]
  ·rw[if_neg h,if_neg (λ z=>by obtain⟨x,hx,e⟩:=HE.mp z;cases e;exact h hx),HA];rfl
theorem yu (ys:List Str):eG (ys.map (Sum.inr:Str->Key))=(eG ys).map Sum.inr:=BC [] ys
theorem DD (ys:List Str):(ys.map (Sum.inr:Str->Key)).map kV=ys.map V.str:=by rw[IU];rfl
theorem sP {xs:List Str}{m:Nat}{ps:List Piece}(ok:cI xs m ps):∀x∈b6 ps,x∈xs:=λ x hx=>by
 obtain⟨p,hp,hx⟩:=List.mem_flatMap.mp hx
 rcases HI.mp hx with h | h
 ·obtain⟨d,hd,h⟩:=List.mem_flatMap.mp h;have dk:=(ok.eX p hp).2 d hd;cases d with
  | put a n=>rw[Hm.mp h];exact dk.1
  | copy a b =>
   rcases Ho.mp h with rfl | h
   ·exact dk.1
   ·rw[Hm.mp h];exact dk.2
  | add a n=>rw[Hm.mp h];exact dk.1
  | read a=>rw[Hm.mp h];exact dk
  | tell a=>rw[Hm.mp h];exact dk
 ·have ek:=ok.ends p hp;obtain⟨ds,e⟩:=p;cases e with
  | stop=>cases h
  | go q=>cases h
  | aR b a n q r=>rw[Hm.mp h];exact ek.1
theorem sQ {α β : Type}{l:List α}{f:α->List β}{i:Nat}{x:α}(h:l[i]?=some x):(l.take (i+1)).flatMap f=(l.take i).flatMap f++f x:=by
 rw[HM,h,List.flatMap_append];simp
theorem lZ {α β : Type}{l:List α}{f:α->List β}(i:Nat):((l.take i).flatMap f).length<=(l.flatMap f).length:=by
 conv=>rhs;rw[<-List.take_append_drop i l,List.flatMap_append,Ht]
 exact Ii _ _
inductive sR  (vs:List V) (H:Hp) (Q:VK) (_:XK):Prop
 | mk (plv:V) (ps:List Piece) (xs:List Str) (m:Nat) (_:vs=[plv]) (_:bg H plv (eF ps)) (_:cI xs m ps) (_:xs.length<64) (_:(b6 ps).length<=4000) (_:∀(t:Addr) (ss:List Str) (H':Hp),H' t=some (.tup (ss.map V.str))->ss.Perm (eG (b6 ps))->sortedS ss=true->ss.length<64->ah H H'->Q (.ref t) H')
theorem BD {xs:List Str}{m:Nat}{ps:List Piece}(ok:cI xs m ps):(eG (b6 ps)).length<=xs.length :=
 sub_len (vi _) λ x hx=>sP ok x (sO.mp hx)
end L2
namespace PySem
theorem tW:typeLookup (.type "tuple") "keys" = pure none:=by rw[typeLookup_type,builtinLookup_eq_fast];kernel_rfl
section
variable {prog:Program}{w:World}{A:Around}{E:AT}{s:Shared}
theorem tX {a:Addr}{xs:Array Value}{k:Nat}{sl:Cl}{name:Str}{u:Tok}{Q:AT}(hx:s.heap.get? a=some { cls:=.type "tuple",dict:=none,data:=.seq xs k,slots:=sl })
  (miss:typeLookup (.type "tuple") name=pure none) (plain:(["__module__", "__name__", "__qualname__", "__doc__", "__annotations__"]:List Str).contains name=false) (calm:A.handled=none) (fits:name.length+100<=sizeLine)
  (fin:∀g tk e,Heap.NewExcOf s.heap g e "AttributeError" -> E (.ref e) { s with heap:=g,toks:=tk }):wpAny (model prog w) A (getAttrBy (.ref a) (.str name u) false) Q E s:=by
 obtain⟨hp,gs,dr,tk,os⟩:=s;have hT:∀tk',(⟨hp,gs,dr,tk',os⟩:Shared).TypeIs (.ref a) "tuple" := λ _=>⟨_,hx,rfl⟩
 have f1:=sub_AttributeError;have f3:=F.slot_tuple_getattribute.lookup;have f4:=F.slot_tuple_getattribute.bind (.ref a);have f5:=am_tuple_getattr_none;unfold getAttrBy
 repeat (any_goals (first | exact hT _ | assumption | ((with_reducible show wpAny _ _ (call (Value.builtin "tuple.__getattribute__") _ _) _ _ _);refine call_meets F.slot_tuple_getattribute (hT _) am_entry_tuple_getattribute (F.args_tuple_getattribute_2 _ _) (meets_getattribute_miss_tuple a xs k sl name _ miss plain fits) ⟨hx,calm,λ g t e ne=>?_⟩) | wp_step))
 obtain⟨t',u',there⟩:=ne.there;show wpAny _ _ (getattributeRaised _ _ _ _ _ _ _) _ _ _;unfold getattributeRaised
 repeat (any_goals (first | wp_step | assumption))
 exact fin g _ e ne.of
theorem qf {a:Addr}{xs:Array Value}{k:Nat}{sl:Cl}{Q:Option Value->Shared->Prop}(hx:s.heap.get? a=some { cls:=.type "tuple",dict:=none,data:=.seq xs k,slots:=sl })(calm:A.handled=none)
  (fin:∀g tk,(∀b o,s.heap.get? b=some o->g.get? b=some o)->Q none { s with heap:=g,toks:=tk }):wpAny (model prog w) A (getAttr? (.ref a) "keys") Q E s:=by
 unfold getAttr? getAttrBy?;refine J7 (wpAny_mkText ?_);refine J7 (Ki ?_);refine tX (s:={ s with toks:=s.toks+1 }) hx tW ⋯ calm ⋯ λ g tk e ne=>?_
 obtain⟨ob,vs,he,hc,_⟩:=ne.there;have hT:({ s with heap:=g,toks:=tk }:Shared).TypeIs (.ref e) "AttributeError" := ⟨ob,he,hc⟩;refine J7 (Ks hT sub_AttributeError ?_);exact J8 (fin g tk ne.keeps)
end
end PySem
namespace PySem
theorem kK:entryFor table "dict.update.loop" = some Builtin.«dict.update.loop»:=entryFor_of_tree (by kernel_rfl)
theorem gr:plainId "dict.update.loop" = true:=by decide
section
variable {prog:Program}{w:World}{K:Type}[DecidableEq K]{knd:KeyKind prog w K}{A:Around}{s:Shared}
def vm (knd:KeyKind prog w K)(h:Heap)(q:Addr)(p:K×Value):Prop:=∃key n sl,h.get? q=some { cls:=.type "tuple",dict:=none,data:=.seq #[key,p.2] n,slots:=sl }/\knd.is p.1 key=true
theorem tY {E:AT}{q:Addr}{x y:Value}{n:Nat}{sl:Cl}{Q:List Value->Shared->Prop}(hq:s.heap.get? q=some { cls:=.type "tuple",dict:=none,data:=.seq #[x,y] n,slots:=sl })
  (fin:Q [x,y] s):wpAny (model prog w) A (Builtin.Dict.pairItems (.ref q)) Q E s:=by
 have hT:s.TypeIs (.ref q) "tuple" := ⟨_,hq,rfl⟩;unfold Builtin.Dict.pairItems;refine J7 (Kp hT ?_);rw[if_pos ⋯];unfold seqItems?;obtain⟨hp,gs,dr,tk,os⟩:=s
 repeat (any_goals (first | wp_step | assumption))
theorem yw {E:AT}{d I ax:Addr}{items:Array Value}{rs:List (K×Value)}{R:Result->Shared->Prop}{h0:Heap}(calm:A.handled=none)(ndI:d≠I)(nda:d≠ax)(nax:ax≠I)(len:rs.length=items.size)(bV:rs.length<=sizeLine)
  (pairs:∀(i:Nat) (p:K×Value),rs[i]?=some p->∃q,items[i]?=some (.ref q)/\q≠d/\q≠I/\vm knd h0 q p)
  (fin:∀(g:Heap) (tk:Nat),g.DictOf knd d (merged [] rs)->(∀b o,b≠d->b≠I->h0.get? b=some o->g.get? b=some o)->R (.ok (.ret .none)) { s with heap:=g,toks:=tk }) :
  ∀(m i:Nat) (h:Heap) (tk:Nat) (t:Tok),rs.length-i=m->i<=rs.length->h.IsTupleIter I ax i->h.IsTuple ax items->h.DictOf knd d (merged [] (rs.take i))->(∀b o,b≠d->b≠I->h0.get? b=some o->h.get? b=some o) ->
   codeAny (model prog w) A (.builtin "dict.update.loop" ⟨[.ref d,.ref I,.int i t,.none],[]⟩) R { s with heap:=h,toks:=tk }:=by
 have W:=Walks.tuple (prog:=prog) (w:=w) (A:=A.in1) calm I ax nax items;intro m
 induction m with
 | zero =>
  intro i h tk t em hi it ta dd kp;have ei:i=rs.length:=by omega
  subst ei;refine Kh kK ?_;rw[IJ gr _];show wpAny _ A.in1 (pyNext (.ref I) >>= _) _ _ _;refine J7 (W.done { s with heap:=h,toks:=tk } _ _ ⟨by rw[<-len];exact it,ta⟩ λ g tk' kg=>?_);show wpAny _ A.in1 (Builtin.Dict.addKeywords d [] >>= λ _=>ret Value.none) _ _ _;refine J7 (J8 ?_);refine J8 (fin g tk' ?_ λ b o n1 n2 e=>kg b o (by simpa using n2) (kp b o n1 n2 e));rw[HW] at dd;obtain⟨ob,es,ep,ho,rest⟩:=dd;exact⟨ob,es,ep,kg d ob (by simpa using ndI) ho,rest⟩
 | succ m ih =>
  intro i h tk t em hi it ta dd kp;have hlt:i<rs.length:=by omega
  have hp:rs[i]?=some rs[i]:=by simp[hlt]
  generalize rs[i]=p at hp;obtain⟨q,hq,nqd,nqI,key,n,sl,hqo,hkey⟩:=pairs i p hp;refine Kh kK ?_;rw[IJ gr _];show wpAny _ A.in1 (pyNext (.ref I) >>= _) _ _ _;refine J7 (W.item i { s with heap:=h,toks:=tk } _ _ ⋯ ⟨it,ta⟩ λ v g tk' hv st kg=>?_);rw[hq] at hv;cases hv;have kp':∀b o,b≠d->b≠I->h0.get? b=some o->g.get? b=some o:=λ b o n1 n2 e=>kg b o (by simpa using n2) (kp b o n1 n2 e)
  refine J7 (Kb (J7 (wpAny_tryCatch (tY (kp' q _ nqd nqI hqo) ?_))));have dd':g.DictOf knd d (merged [] (rs.take i)):=by
   obtain⟨ob,es,ep,ho,rest⟩:=dd;exact⟨ob,es,ep,kg d ob (by simpa using ndI) ho,rest⟩
  refine Kb (wpAny_dictSet_pairs hkey dd' (λ g2 dd2 same=>?_) ?_)
  ·refine J8 ⟨plainId_quiet gr _,?_⟩;rw[<-merged_take_succ [] rs i p hp] at dd2;have k2:∀b o,b≠d->g.get? b=some o->g2.get? b=some o:=λ b o nb e=>(same.2 b nb).trans e
   refine ih (i+1) g2 _ _ ⋯ hlt ?_ ?_ dd2 λ b o n1 n2 e=>k2 b o n1 (kp' b o n1 n2 e)
   ·exact st.1.at λ o e=>k2 I o ndI.symm e
   ·exact st.2.at λ o e=>k2 ax o nda.symm e
  ·have e:=merged_length_le ([]:List (K×Value)) (rs.take i);rw[HP] at e;simp only[JJ] at e;omega
open PySem.Calls in
theorem tZ {E:AT}{ax:Addr}{items:Array Value}{na:Nat}{sa:Cl}{rs:List (K×Value)}{Q:AT}(calm:A.handled=none)
  (hx:s.heap.get? ax=some { cls:=.type "tuple",dict:=none,data:=.seq items na,slots:=sa }) (len:rs.length=items.size) (bV:rs.length<=sizeLine)
  (pairs:∀(i:Nat) (p:K×Value),rs[i]?=some p->∃q,items[i]?=some (.ref q)/\vm knd s.heap q p)
  (fin:∀(g:Heap) (tk:Nat),g.DictOf knd s.heap.objs.size (merged [] rs)->(∀b o,s.heap.get? b=some o->g.get? b=some o)->Q (.ref s.heap.objs.size) { s with heap:=g,toks:=tk }) :
  wpAny (model prog w) A (call (.type "dict") [.ref ax]) Q E s:=by
 refine callType_codes (Q₁:=λ ob s1=>ob=.ref s.heap.objs.size/\s1={ s with heap:=s.heap.push { cls:=.type "dict",data:=.dict #[] } }) F.kt_called_dict (F.kt_typeCall_dict_1 _) F.entry_dict_init (kt_code_dict_new _ ⟨rfl,rfl⟩) λ ob s1 e1=>?_
 obtain⟨rfl,rfl⟩:=e1;have fresh:(s.heap.push { cls:=.type "dict",data:=.dict #[] }).DictOf knd s.heap.objs.size []:=Heap.DictOf.new s.heap;have hx1:=Hr { cls:=.type "dict",data:=.dict #[] } hx;exists fresh.typeIs,F.args_dict_init_2 _ _;have hT:({ s with heap:=s.heap.push { cls:=.type "dict",data:=.dict #[] } }:Shared).TypeIs (.ref ax) "tuple" := ⟨_,hx1,rfl⟩;unfold Builtin.«dict.__init__»;refine J7 ?_;unfold Builtin.Dict.selfAndRest;refine J7 (wpAny_notOrdered_dict fresh.typeIs (J8 ?_));show wpAny _ _ (Builtin.Dict.updateFrom "dict.__init__" s.heap.objs.size (.ref ax) [] .none) _ _ _;unfold Builtin.Dict.updateFrom;refine J7 (Kp hT ?_);rw[if_pos ⋯];refine J7 (qf hx1 calm λ g tk kg=>?_);rw[if_pos (show (none:Option Value).isNone=true from rfl)];refine J7 (Kf ?_);have hxg:=kg _ _ hx1;have hta:g.IsTuple ax items:=⟨_,hxg,rfl,na,rfl⟩;refine J7 (Ko hta ?_);have dg:g.DictOf knd s.heap.objs.size []:=by
  obtain⟨ob,es,ep,ho,rest⟩:=fresh;exact⟨ob,es,ep,kg _ _ ho,rest⟩
 have ltd:s.heap.objs.size<g.objs.size:=by
  obtain⟨ob,es,ep,ho,rest⟩:=dg;exact Hq ho
 have lta:ax<g.objs.size:=Hq hxg;have ltx:ax<s.heap.objs.size:=Hq hx;have kg':∀b o,s.heap.get? b=some o->(g.push { cls:=.type "tuple_iterator",data:=.fields #[.ref ax,.int 0 0] }).get? b=some o:=λ b o e=>Hr _ (kg b o (Hr _ e))
 refine J8 ⟨plainId_quiet gr _,?_⟩;refine yw (E:=E) (knd:=knd) (s:=s) (A:=A.in1) (items:=items) (rs:=rs) (h0:=g.push { cls:=.type "tuple_iterator",data:=.fields #[.ref ax,.int 0 0] }) calm (Hw ltd) (Iv ltx) (Hw lta) len bV (λ i p hp=>?_) (λ g2 tk2 dd2 k2=>⟨rfl,fin g2 tk2 dd2 λ b o e=>k2 b o (Hw (Hq e)) (Hw (JL (Hq e) ltd)) (kg' b o e)⟩) rs.length 0 _ _ _ (Nat.sub_zero _) (HL _) ⟨_,Hs _ rfl,rfl,rfl⟩ (hta.push _) (dg.push _) λ b o _ _ e=>e
 obtain⟨q,hq,key,n,sl,hqo,hkey⟩:=pairs i p hp;have hql:=Hq hqo;exact⟨q,hq,Hw hql,Hw (JL hql ltd),key,n,sl,kg' q _ hqo,hkey⟩
end
end PySem
namespace L2
open PySem PySem.Spec PyProof.Rows
theorem CQ:∀(kvs:List (Key×V)) (P:Nat->Key×Value->Prop),(∀(i:Nat) (k:Key) (v:V),kvs[i]?=some (k,v)->∃u,RelV v u/\P i (k,u))->∃rs:List (Key×Value),KV kvs rs/\∀(i:Nat) (p:Key×Value),rs[i]?=some p->P i p
 | [],_,_=>⟨[],.nil,λ i p h=>by simp at h⟩
 | (k,v)::r,P,h=>by
  obtain⟨u,ru,hu⟩:=h 0 k v rfl;obtain⟨rs,kr,hr⟩:=CQ r (λ i=>P (i+1)) λ i k' v' e=>h (i+1) k' v' (by simpa using e)
  refine⟨(k,u)::rs,.cons ⟨rfl,ru⟩ kr,λ i p e=>?_⟩;cases i with
  | zero=>cases (HB.inj e);exact hu
  | succ i=>exact hr i p (by simpa using e)
theorem o5:∀{xs:List V} {us:List Value} {j:Nat} {x:V},Vals xs us->xs[j]?=some x->∃u,us[j]?=some u/\RelV x u
 | _,_,_,_,.nil,e=>by simp at e
 | _,_,0,_,.cons r _,e=>by
  cases (HB.inj e);exact⟨_,rfl,r⟩
 | _,_,j+1,x,.cons _ t,e=>by
  obtain⟨u,h1,h2⟩:=o5 (j:=j) (x:=x) t (by simpa using e);exact⟨u,by simpa using h1,h2⟩
section
variable {X:Cx}
theorem fQ (hc:X.calm=true):eR X (.type "dict") (λ vs H Q=>∃(a:Addr) (xs:List V) (kvs:List (Key×V)),vs=[.ref a]/\H a=some (.tup xs)/\xs.length=kvs.length /\
  (∀(i:Nat) (k:Key) (v:V),kvs[i]?=some (k,v)->∃q,xs[i]?=some (.ref q)/\H q=some (.tup [kV k,v]))/\(kvs.map (·.1)).Nodup/\∀d,H d=none->Q (.ref d) (upd H d (.dK kvs))):=by
 intro pins s Hh H vs us Q I r h;obtain⟨a,xs,kvs,rfl,ha,hl,hp,nd,q⟩:=h;obtain⟨u,rfl,ru⟩:=vals1 r;cases (show u=Value.ref a from ru);obtain⟨hz,its,rv,⟨c,dct,dat,sl⟩,h1,h2,n,h3,h4⟩:=(show b0 X.prog X.w H s.heap a (.tup xs) from I.bc a _ ha);dsimp only at h2 h3 h4;subst h2 h3 h4;have hil:its.length=kvs.length:=by rw[<-rv.length];exact hl
 obtain⟨rs,rel,prs⟩:=CQ kvs (λ i p=>∃q,its.toArray[i]?=some (.ref q)/\vm (ba X.prog X.w) s.heap q p) λ i k v e=>by
  obtain⟨q,e1,e2⟩:=hp i k v e;obtain⟨_,its2,rv2,⟨c2,dct2,dat2,sl2⟩,g1,g2,n2,g3,g4⟩:=(show b0 X.prog X.w H s.heap q (.tup [kV k,v]) from I.bc q _ e2);dsimp only at g2 g3 g4;subst g2 g3 g4;obtain⟨key,u2,rfl,rk,ru2⟩:=vals2 rv2;refine⟨u2,ru2,q,?_,key,n2,sl2,g1,lg rk⟩;obtain⟨w',hw,rw'⟩:=o5 rv e1;cases (show w' = Value.ref q from rw');simpa using hw
 have hkl:kvs.length<=sizeLine:=by rw[<-hl];exact hz
 have ndr:(rs.map (·.1)).Nodup:=by rw[<-rel.keys];exact nd
 refine tZ (knd:=ba X.prog X.w) (rs:=rs) (I.ok.hd hc) h1 (by rw[<-rel.length,<-hil];simp) (by rw[<-rel.length];exact hkl) prs λ g tk dd kg=>?_
 rw[merged_nil_of_nodup rs ndr] at dd;exact⟨.ref s.heap.objs.size,_,I.laid (a:=s.heap.objs.size) (o:=.dK kvs) (t':=tk) kg (Hn _) (mJ hkl (beq_eq_false_iff_ne.mpr (Ne.symm (Hw I.big))) rel dd),rfl,q _ (I.bc.fresh (Hn _))⟩
theorem all_range (bs:List Bool):((HY bs.length).all λ i=>(bs[i]?).getD true)=bs.all id:=by
 rw[Jh];simp only[Ir,IQ]
 constructor
 ·intro h b hb;obtain⟨i,hi,rfl⟩:=List.getElem_of_mem hb;have:=h i hi;simpa [hi] using this
 ·intro h i hi;have:=h bs[i] (Ik hi);simpa [hi] using this
theorem jX (hc:X.calm=true):eR X (.builtin "all") (λ vs H Q=>∃(p:Addr) (bs:List Bool),vs=[.ref p]/\aT X.K H p (bs.map V.bl)/\Q (.bl (bs.all id)) H):=by
 intro pins s Hh H vs us Q I r h;obtain⟨p,bs,rfl,hS,q⟩:=h;obtain⟨u,rfl,ru⟩:=vals1 r;cases (show u=Value.ref p from ru);obtain⟨its,rv,pl,hz⟩:=I.list hS;have hl:=pl.isList;have hlt:p<s.heap.objs.size:=by
  obtain⟨_,e,_⟩:=hl;exact Hq e
 have hsz:its.toArray.size=bs.length:=by
  have:=rv.length;simp at this;simp[this]
 refine call_all_walk (KG hl ?_);refine⟨s.heap.objs.size,[s.heap.objs.size,p],[s.heap.objs.size],its.toArray.size,_,_,λ j=>(bs[j]?).getD true,rfl,Walks.list (A:=X.A.in1) (I.ok.hd hc) _ p (Hw hlt) its.toArray,
  ⟨⟨_,Hs _ rfl,rfl,rfl⟩,hl.push _⟩,λ j v t Q' E' hP hQ=>?_,λ g tk hk=>?_⟩
 ·have hj:its[j]?=some v:=by simpa using hP
  have hjl:j<bs.length:=by
   have:=(HD.mp hj).1;rw[<-rv.length,Hk] at this;exact this
  have hb:bs[j]?=some bs[j]:=by simp[hjl]
  obtain⟨w',hw,rw'⟩:=o5 (j:=j) (x:=V.bl bs[j]) rv (by rw[HC,hb];rfl);rw[hj] at hw;cases hw;cases (show v=Value.bool bs[j] from rw');have hQ':Q' ((bs[j]?).getD true) t:=hQ;rw[hb] at hQ';exact Kj hQ'
 ·refine⟨.bl (bs.all id),H,?_,?_,q⟩
  ·refine I.kept (t':=tk) λ b o e=>hk b o (λ hm=>?_) (Hr _ e)
   rw[Hm.mp hm] at e;exact HG _ (Hq e)
  ·show _=Value.bool (bs.all id);rw[hsz,all_range]
end
def qg (a b:Str):Prop:=a.cps.toList<=b.cps.toList
theorem zV {a b c:Str}(h:qg a b)(g:qg b c):qg a c:=List.le_trans h g
theorem BE {a b:Str}(h:qg a b)(g:qg b a):a=b:=by
 have e:a.cps.toList=b.cps.toList:=List.le_antisymm h g;have e2:a.cps=b.cps:=by rw[<-Array.toArray_toList (xs:=a.cps),e,Array.toArray_toList]
 cases a;cases b;cases e2;rfl
theorem sS:∀(l:List Str) (p:Str),risingS p l=true->(p::l).Pairwise qg
 | [],p,_=>by simp
 | x::r,p,h=>by
  have h':(!ltCps x.cps.toList p.cps.toList&&risingS x r)=true:=h;rw[HU,Bool.not_eq_true'] at h';have h1:qg p x:=by
   have:=h'.1;rw[ltCps_eq] at this;exact of_decide_eq_false this
  have ih:=sS r x h'.2;refine IF.cons (λ y hy=>?_) ih
  rcases Ho.mp hy with e | hy
  ·rw[e];exact h1
  ·exact zV h1 ((JR.mp ih).1 y hy)
theorem mQ {l:List Str}(h:sortedS l=true):l.Pairwise qg:=by
 cases l with
 | nil=>exact IF.nil
 | cons x r=>exact sS r x h
structure jE (ss:List Str):Prop where
 pw:ss.Pairwise qg
 nd:ss.Nodup
theorem jE.tail {x:Str}{r:List Str}(h:jE (x::r)):jE r:=⟨(JR.mp h.pw).2,(ID.mp h.nd).2⟩
theorem jE.unique:∀{l m:List Str},jE l->jE m->(∀x,x∈l↔x∈m)->l=m
 | [],[],_,_,_=>rfl
 | [],b::m,_,_,h=>absurd ((h b).mpr (Hv ..)) (by simp)
 | a::l,[],_,_,h=>absurd ((h a).mp (Hv ..)) (by simp)
 | a::l,b::m,hl,hm,h=>by
  have e:a=b:=by
   rcases Ho.mp ((h a).mp (Hv ..)) with e | h1
   ·exact e
   ·rcases Ho.mp ((h b).mpr (Hv ..)) with e | h2
    ·exact e.symm
    ·exact BE ((JR.mp hl.pw).1 b h2) ((JR.mp hm.pw).1 a h1)
  subst e;have na:=(ID.mp hl.nd).1;have nb:=(ID.mp hm.nd).1;rw[jE.unique hl.tail hm.tail λ x=>⟨λ hx=>?_,λ hx=>?_⟩]
  ·rcases Ho.mp ((h x).mp (Hx _ hx)) with e | h1
   ·exact absurd (by rw[<-e];exact hx) na
   ·exact h1
  ·rcases Ho.mp ((h x).mpr (Hx _ hx)) with e | h1
   ·exact absurd (by rw[<-e];exact hx) nb
   ·exact h1
theorem jE.filter {l:List Str}(h:jE l)(p:Str->Bool):jE (l.filter p):=⟨h.pw.filter p,h.nd.filter p⟩
abbrev Sx:=Option Int×Option Int
def cF:Sx:=(none,none)
structure iz (K:Hl) (mg:Ch) (aA:Addr):Prop where
 pY:mg "ALL" = some (.ref aA)
 at_:∃dc n sl,K.lookup aA=some ⟨.type "tuple",dc,.seq #[.none,.none] n,sl⟩
theorem iz.sq {K:Hl}{mg:Ch}{aA:Addr}(h:iz K mg aA)(H:Hp):au K H aA [.aZ,.aZ]:=by
 obtain⟨dc,n,sl,e⟩:=h.at_;exact .inr ⟨_,#[.none,.none],n,e,rfl,rfl,by decide,.cons rfl (.cons rfl .nil)⟩
def SH (H:Hp)(v:V)(s:Sx):Prop:=∃q,v=.ref q/\H q=some (.tup [vO s.1,vO s.2])
def SV (aA:Addr)(H:Hp)(v:V)(s:Sx):Prop:=SH H v s\/(v=.ref aA/\s=cF)
def dS (s:Sx):PyData:=.tuple [dO s.1,dO s.2]
theorem SH.rd {H:Hp}{v:V}{s:Sx}(h:SH H v s):bg H v (dS s):=by
 obtain⟨q,rfl,e⟩:=h;exact .tup e (.cons (EX _) (.cons (EX _) .nil))
theorem SH.aM {H H':Hp}{v:V}{s:Sx}(h:SH H v s)(k:∀p xs,H p=some (.tup xs)->H' p=some (.tup xs)):SH H' v s:=by
 obtain⟨q,e,h⟩:=h;exact⟨q,e,k _ _ h⟩
theorem SV.aM {aA:Addr}{H H':Hp}{v:V}{s:Sx}(h:SV aA H v s)(k:∀p xs,H p=some (.tup xs)->H' p=some (.tup xs)):SV aA H' v s:=h.elim (λ h=>.inl (h.aM k)) .inr
theorem SV.sq {K:Hl}{mg:Ch}{aA:Addr}{H:Hp}{v:V}{s:Sx}(g:iz K mg aA)(h:SV aA H v s):∃q,v=.ref q/\au K H q [vO s.1,vO s.2]:=by
 rcases h with ⟨q,e,h⟩ | ⟨e,rfl⟩
 ·exact⟨q,e,au.of h⟩
 ·exact⟨aA,e,g.sq H⟩
theorem nO {H:Hp}{v:V}{o:Option Int}(h:bg H v (dO o)):v=vO o:=by
 cases o with
 | none=>cases h;rfl
 | some i=>exact h.int_inv
structure Tb (aA:Addr) (H:Hp) (kvs:List (Key×V)) (ks:List Str) (T:Str->Sx):Prop where
 keys:kvs.map (·.1)=ks.map Sum.inr
 nd:ks.Nodup
 val:∀x:Str,(cw kvs (Sum.inr x)=none/\T x=cF/\¬x∈ks)\/(∃v,cw kvs (Sum.inr x)=some v/\SV aA H v (T x)/\x∈ks)
def b8 (T:Str->Sx)(x:Str)(s:Sx):Str->Sx:=λ y=>if y=x then s else T y
theorem Tb.aM {aA:Addr}{H H':Hp}{kvs:List (Key×V)}{ks:List Str}{T:Str->Sx}(h:Tb aA H kvs ks T)(k:∀p xs,H p=some (.tup xs)->H' p=some (.tup xs)):Tb aA H' kvs ks T :=
 ⟨h.keys,h.nd,λ x=>(h.val x).elim .inl λ ⟨v,e,s,m⟩=>.inr ⟨v,e,s.aM k,m⟩⟩
theorem Tb.put {aA:Addr}{H:Hp}{kvs:List (Key×V)}{ks:List Str}{T:Str->Sx}(h:Tb aA H kvs ks T){v:V}{s:Sx}(x:Str)(hv:SV aA H v s) :
  ∃ks',Tb aA H (putK kvs (Sum.inr x) v) ks' (b8 T x s)/\ks'.length<=ks.length+1/\∀y,y∈ks'↔y∈ks\/y=x:=by
 have vals:∀(ks':List Str),(∀y,y∈ks'↔y∈ks\/y=x)->∀y:Str,(cw (putK kvs (Sum.inr x) v) (Sum.inr y)=none/\b8 T x s y=cF/\¬y∈ks')\/(∃u,cw (putK kvs (Sum.inr x) v) (Sum.inr y)=some u/\SV aA H u (b8 T x s y)/\y∈ks'):=by
  intro ks' hk y;rw[Bc];unfold b8;by_cases e:y=x
  ·subst e;rw[if_pos rfl,if_pos rfl];exact .inr ⟨v,rfl,hv,(hk y).mpr (.inr rfl)⟩
  ·rw[if_neg (λ z=>e (Sum.inr.inj z)),if_neg e]
   rcases h.val y with ⟨a,b,c⟩ | ⟨u,a,b,c⟩
   ·exact .inl ⟨a,b,λ z=>((hk y).mp z).elim c e⟩
   ·exact .inr ⟨u,a,b,(hk y).mpr (.inl c)⟩
 rcases zD (kvs:=kvs) (k:=(Sum.inr x:Key)) (v:=v) with ⟨e1,hm⟩ | ⟨e1,hn⟩
 ·have hx:x∈ks:=by
   rw[h.keys] at hm;obtain⟨y,hy,e⟩:=HE.mp hm;cases e;exact hy
  have hk:∀y,y∈ks↔y∈ks\/y=x:=λ y=>⟨.inl,λ z=>z.elim id λ e=>by rw[e];exact hx⟩
  exact⟨ks,⟨by rw[e1];exact h.keys,h.nd,vals ks hk⟩,Ip _,hk⟩
 ·have hx:¬x∈ks:=λ z=>hn (by rw[h.keys];exact HE.mpr ⟨x,z,rfl⟩)
  have hk:∀y,y∈ks++[x]↔y∈ks\/y=x:=λ y=>by simp
  refine⟨ks++[x],⟨by rw[e1,h.keys,HA];rfl,?_,vals _ hk⟩,by simp,hk⟩;rw[IV];refine⟨h.nd,by simp,λ a ha b hb=>?_⟩;rw[Hm] at hb;subst hb;exact λ z=>hx (by rw[<-z];exact ha)
def dF (T:Str->Sx)(x:Str):PyData:=.tuple [.str x,dS (T x)]
def FV (H:Hp)(v:V)(T:Str->Sx):Prop:=∃(p:Addr) (xs:List V) (ss:List Str),v=.ref p/\H p=some (.tup xs)/\jE ss/\(∀x,x∈ss↔T x≠cF)/\bp H xs (ss.map (dF T))
def fX (T:Str->Sx)(ss:List Str):PyData:=.tuple (ss.map (dF T))
theorem h9 (T:Str->Sx):∀ss:List Str,cT (ss.map (dF T))=true
 | []=>rfl
 | x::ss=>by
  show (cP (dF T x)&&cT (ss.map (dF T)))=true;rw[h9 T ss];show ((true&&((cP (dO (T x).1)&&(cP (dO (T x).2)&&true))&&true))&&true)=true;cases (T x).1<;>cases (T x).2<;>rfl
theorem FV.aM {H H':Hp}{v:V}{T:Str->Sx}(h:FV H v T)(k:∀p xs,H p=some (.tup xs)->H' p=some (.tup xs)):FV H' v T:=by
 obtain⟨p,xs,ss,e,hp,hs,hm,r⟩:=h;exact⟨p,xs,ss,e,k _ _ hp,hs,hm,r.aM k (h9 T ss)⟩
theorem FV.same {H H':Hp}{v:V}{T:Str->Sx}(h:FV H v T)(s:ah H H'):FV H' v T:=h.aM λ p xs e=>s _ _ e
theorem FV.tb {H:Hp}{xs:List V}{T:Str->Sx}{ss:List Str}(aA:Addr)(hs:jE ss)(hm:∀x,x∈ss↔T x≠cF)(r:bp H xs (ss.map (dF T))) :
  ∃kvs:List (Key×V),xs.length=kvs.length/\(∀(i:Nat) (k:Key) (v:V),kvs[i]?=some (k,v)->∃q,xs[i]?=some (.ref q)/\H q=some (.tup [kV k,v]))/\(kvs.map (·.1)).Nodup/\Tb aA H kvs ss T:=by
 have go:∀(ss:List Str) (xs:List V),bp H xs (ss.map (dF T))->∃kvs:List (Key×V),xs.length=kvs.length/\(∀(i:Nat) (k:Key) (v:V),kvs[i]?=some (k,v)->∃q,xs[i]?=some (.ref q)/\H q=some (.tup [kV k,v])) /\
   kvs.map (·.1)=ss.map Sum.inr/\∀x:Str,(cw kvs (Sum.inr x)=none/\¬x∈ss)\/(∃v,cw kvs (Sum.inr x)=some v/\SH H v (T x)/\x∈ss):=by
  intro ss
  induction ss with
  | nil =>
   intro xs r;have z:=bp.nil_inv r;subst z;exact⟨[],rfl,λ i k v e=>by simp at e,rfl,λ x=>.inl ⟨rfl,by simp⟩⟩
  | cons y ss ih =>
   intro xs r;obtain⟨x1,t1,rfl,h1,r⟩:=bp.cons_inv r;obtain⟨kvs,l1,l2,l3,l4⟩:=ih t1 r;obtain⟨q,zs,rfl,hq,rz⟩:=bg.bQ h1;obtain⟨z1,t2,rfl,g1,rz⟩:=rz.cons_inv;obtain⟨z2,t3,rfl,g2,rz⟩:=rz.cons_inv;have z:=rz.nil_inv;subst z;obtain⟨q2,ws,rfl,hq2,rw2⟩:=bg.bQ g2;obtain⟨w1,t4,rfl,f1,rw2⟩:=rw2.cons_inv;obtain⟨w2,t5,rfl,f2,rw2⟩:=rw2.cons_inv;have z:=rw2.nil_inv;subst z;have e1:w1=vO (T y).1:=nO f1;have e2:w2=vO (T y).2:=nO f2;subst e1 e2;rw[g1.str_inv] at hq;refine⟨(Sum.inr y,.ref q2)::kvs,by simp[l1],λ i k v e=>?_,by simp[l3],λ x=>?_⟩
   ·cases i with
    | zero=>cases (HB.inj e);exact⟨q,rfl,hq⟩
    | succ i =>
     obtain⟨q',a,b⟩:=l2 i k v (by simpa using e);exact⟨q',by simpa using a,b⟩
   ·by_cases e:x=y
    ·subst e;exact .inr ⟨_,dC rfl,⟨q2,rfl,hq2⟩,Hv ..⟩
    ·rw[dm (λ z=>e (Sum.inr.inj z).symm)]
     rcases l4 x with ⟨a,b⟩ | ⟨v,a,b,c⟩
     ·exact .inl ⟨a,λ z=>(Ho.mp z).elim e b⟩
     ·exact .inr ⟨v,a,b,Hx _ c⟩
 obtain⟨kvs,l1,l2,l3,l4⟩:=go ss xs r;refine⟨kvs,l1,l2,?_,⟨l3,hs.nd,λ x=>?_⟩⟩
 ·rw[l3];exact IF.map _ (λ a b n z=>n (Sum.inr.inj z)) hs.nd
 ·rcases l4 x with ⟨a,b⟩ | ⟨v,a,b,c⟩
  ·refine .inl ⟨a,?_,b⟩;exact Classical.byContradiction λ z=>b ((hm x).mpr z)
  ·exact .inr ⟨v,a,.inl b,c⟩
theorem rB (s:Sx):PyData.eqv (dS s) (.tuple [.none,.none])=decide (s=cF):=by
 obtain⟨a,b⟩:=s;cases a<;>cases b<;>rfl
theorem yx (s:Sx):(dS s).canLay0=true:=by
 obtain⟨a,b⟩:=s;cases a<;>cases b<;>rfl
theorem CS (s:Sx):(dS s).depth<=60:=by
 obtain⟨a,b⟩:=s;cases a<;>cases b<;>(show (1:Nat)<=60;decide)
section
variable {X:Cx}
theorem zW {pins:BT}{Hh : St}{H:Hp}{s:Shared}{aA:Addr}(I:Inv X pins Hh H s)(g:iz X.K X.mg aA):∃as,Reads s.heap (.ref aA) (.tuple [.none,.none]) as:=by
 obtain⟨dc,n,sl,e⟩:=g.at_;exact⟨_,.tuple (I.ft aA _ e) rfl rfl (.cons .none (.cons .none .nil))⟩
theorem E7 {aA:Addr}(hu:X.A.units+64<cLine)(g:iz X.K X.mg aA):eJ X (compareOp .NotEq) (λ x y H Q=>∃s,SV aA H x s/\y=.ref aA/\Q (.bl (!decide (s=cF))) H):=by
 intro pins sh Hh H x y v u Q I rx ry h;obtain⟨s,hs,rfl,q⟩:=h;cases (show u=Value.ref aA from ry);obtain⟨bs,rb⟩:=zW I g
 rcases hs with hs | ⟨rfl,rfl⟩
 ·obtain⟨as,ra⟩:=hs.rd.reads I.bc rx;refine PySem.SeqAt.neOverData X.prog X.w X.A X.xe sh v _ _ _ as bs _ ra rb (yx s) rfl (by have:=CS s;omega) ⟨.bl _,H,I,?_,q⟩;show _=Value.bool (!decide (s=cF));rw[rB]
 ·cases (show v=Value.ref aA from rx);exact PySem.SeqAt.neOverData X.prog X.w X.A X.xe sh _ _ _ _ bs bs _ rb rb rfl rfl (by show X.A.units+1<cLine;omega) ⟨.bl _,H,I,rfl,q⟩
end
inductive mR (aA:Addr) (vs:List V) (H:Hp) (Q:VK) (_:XK):Prop
 | mk (d:Addr) (kvs:List (Key×V)) (ks:List Str) (T:Str->Sx) (_:vs=[.ref d]) (_:H d=some (.dK kvs)) (_:Tb aA H kvs ks T) (_:ks.length<64) (_:∀v H',FV H' v T->ah H H'->Q v H')
def jF (o:Option Int)(n:Int):Option Int:=o.map (· + n)
def FZ (s:Sx)(n:Int):Sx:=(jF s.1 n,jF s.2 n)
def o6 (T:Str->Sx):cH->Sx
 | .put _ n=>(some n,some n)
 | .copy _ y=>T y
 | .add x n=>FZ (T x) n
 | .read _=>cF
 | .tell x=>T x
def yy (T:Str->Sx)(d:cH):Str->Sx:=b8 T (pX d) (o6 T d)
def aW (T:Str->Sx):List cH->(Str->Sx):=λ ds=>ds.foldl yy T
inductive xi (K:Hl) (vs:List V) (H:Hp) (Q:VK) (_:XK):Prop
 | mk (q:Addr) (s:Sx) (n:Int) (_:vs=[.ref q,.int n]) (_:au K H q [vO s.1,vO s.2]) (_:∀v H',SH H' v (FZ s n)->ah H H'->Q v H')
inductive qh (aA:Addr) (vs:List V) (H:Hp) (Q:VK) (_:XK):Prop
 | mk (d q:Addr) (kvs:List (Key×V)) (ks:List Str) (T:Str->Sx) (dd:cH) (_:vs=[.ref d,.ref q]) (_:H d=some (.dK kvs)) (_:Tb aA H kvs ks T) (_:H q=some (.tup (uv dd))) (_:∀v H',SV aA H' v (o6 T dd)->ah H H'->Q v H')
inductive o7  (vs:List V) (H:Hp) (Q:VK) (_:XK):Prop
 | mk (fv:V) (p:Addr) (ws:List V) (ds:List cH) (T:Str->Sx) (m:Nat) (_:vs=[fv,.ref p]) (_:FV H fv T) (_:H p=some (.tup ws)) (_:bp H ws (ds.map bI)) (_:(∀ss:List Str,(∀x∈ss,T x≠cF)->ss.Nodup->ss.length<=m)) (_:m+ds.length<64) (_:∀v H',FV H' v (aW T ds)->ah H H'->Q v H')
theorem qi:bootBuiltins "all" = some (.builtin "all"):=by decide
theorem Tb.getD {aA:Addr}{H:Hp}{kvs:List (Key×V)}{ks:List Str}{T:Str->Sx}(h:Tb aA H kvs ks T)(x:Str):∃v,(cw kvs (Sum.inr x)).getD (.ref aA)=v/\SV aA H v (T x):=by
 rcases h.val x with ⟨a,b,_⟩ | ⟨v,a,b,_⟩
 ·exact⟨_,by rw[a];rfl,.inr ⟨rfl,b⟩⟩
 ·exact⟨v,by rw[a];rfl,b⟩
theorem zX {H:Hp}{v:V}{T:Str->Sx}{y:Str}(h:bg H v (dF T y)):∃t q,v=.ref t/\H t=some (.tup [.str y,.ref q])/\H q=some (.tup [vO (T y).1,vO (T y).2]):=by
 obtain⟨t,zs,rfl,ht,rz⟩:=bg.bQ h;obtain⟨z1,t2,rfl,g1,rz⟩:=rz.cons_inv;obtain⟨z2,t3,rfl,g2,rz⟩:=rz.cons_inv;have z:=rz.nil_inv;subst z;obtain⟨q2,ws,rfl,hq2,rw2⟩:=bg.bQ g2;obtain⟨w1,t4,rfl,f1,rw2⟩:=rw2.cons_inv;obtain⟨w2,t5,rfl,f2,rw2⟩:=rw2.cons_inv;have z:=rw2.nil_inv;subst z;rw[g1.str_inv] at ht;rw[nO f1,nO f2] at hq2;exact⟨t,q2,rfl,ht,hq2⟩
section
variable {C D:Addr}{H0 H H1:Hp}{w0 w1:WA}{plv:V}{x0 x1 x':E1}
end
mutual
def fb:PyData->Bool
 | .none=>true
 | .int _=>true
 | .str _=>true
 | .tuple xs=>dt xs
 | _=>false
def dt:List PyData->Bool
 | []=>true
 | x::xs=>fb x&&dt xs
end
mutual
def ux:PyData->Nat
 | .tuple xs=>mS xs+1
 | _=>1
def mS:List PyData->Nat
 | []=>0
 | x::xs=>ux x+mS xs
end
noncomputable instance Fl:DecidableEq PyData:=λ a b=>Classical.propDecidable (a=b)
mutual
theorem rC:∀{a b:PyData},fb a=true->fb b=true->(PyData.eqv a b=true↔a=b)
 | .none,.none,_,_=>⟨λ _=>rfl,λ _=>rfl⟩
 | .int i,.int j,_,_=>by show ((i == j)=true)↔_;rw[beq_iff_eq];exact⟨λ h=>by rw[h],λ h=>by injection h⟩
 | .str x,.str y,_,_=>by show ((x == y)=true)↔_;rw[beq_iff_eq];exact⟨λ h=>by rw[h],λ h=>by injection h⟩
 | .tuple xs,.tuple ys,ha,hb=>by
  show (PyData.eqvAll xs ys=true)↔_;rw[qm (show dt xs=true from ha) (show dt ys=true from hb)];exact⟨λ h=>by rw[h],λ h=>by injection h⟩
 | .none,.int _,_,_ | .none,.str _,_,_ | .none,.tuple _,_,_ | .int _,.none,_,_ | .int _,.str _,_,_ | .int _,.tuple _,_,_
 | .str _,.none,_,_ | .str _,.int _,_,_ | .str _,.tuple _,_,_ | .tuple _,.none,_,_ | .tuple _,.int _,_,_ | .tuple _,.str _,_,_=>⟨λ h=>(by cases h),λ h=>(by cases h)⟩
 | .bool _,_,h,_ | .list _,_,h,_ | .dict _,_,h,_=>by cases h
 | .none,.bool _,_,h | .none,.list _,_,h | .none,.dict _,_,h | .int _,.bool _,_,h | .int _,.list _,_,h | .int _,.dict _,_,h
 | .str _,.bool _,_,h | .str _,.list _,_,h | .str _,.dict _,_,h | .tuple _,.bool _,_,h | .tuple _,.list _,_,h | .tuple _,.dict _,_,h=>by cases h
theorem qm:∀{a b:List PyData},dt a=true->dt b=true->(PyData.eqvAll a b=true↔a=b)
 | [],[],_,_=>⟨λ _=>rfl,λ _=>rfl⟩
 | x::xs,y::ys,ha,hb=>by
  have ha:(fb x&&dt xs)=true:=ha;have hb:(fb y&&dt ys)=true:=hb;rw[HU] at ha hb;show ((PyData.eqv x y&&PyData.eqvAll xs ys)=true)↔_;rw[HU,rC ha.1 hb.1,qm ha.2 hb.2];exact⟨λ ⟨h1,h2⟩=>by rw[h1,h2],λ h=>by injection h with h1 h2;exact⟨h1,h2⟩⟩
 | [],_::_,_,_ | _::_,[],_,_=>⟨λ h=>(by cases h),λ h=>(by cases h)⟩
end
mutual
theorem sT {h:Heap}:∀{v:Value} {a b:PyData} {as bs:List Addr},Reads h v a as->Reads h v b bs->fb a=true->fb b=true->a=b
 | _,_,_,_,_,.none,.none,_,_=>rfl
 | _,_,_,_,_,.int i t,.int _ _,_,_=>rfl
 | _,_,_,_,_,.str x t,.str _ _,_,_=>rfl
 | _,_,_,_,_,.tuple e1 c1 d1 r1,.tuple e2 c2 d2 r2,ha,hb=>by
  rw[e1] at e2;cases e2;rw[d1] at d2;cases d2;rw[mT r1 r2 ha hb]
 | _,_,_,_,_,.tuple e1 c1 d1 r1,.list e2 c2 d2 r2,_,hb=>by cases hb
 | _,_,_,_,_,.tuple e1 c1 d1 r1,.dict e2 c2 d2 r2 r3,_,hb=>by cases hb
 | _,_,_,_,_,.bool _,_,ha,_=>by cases ha
 | _,_,_,_,_,.list ..,_,ha,_=>by cases ha
 | _,_,_,_,_,.dict ..,_,ha,_=>by cases ha
theorem mT {h:Heap}:∀{vs:List Value} {a b:List PyData} {as bs:List Addr},ReadsAll h vs a as->ReadsAll h vs b bs->dt a=true->dt b=true->a=b
 | _,_,_,_,_,.nil,.nil,_,_=>rfl
 | _,_,_,_,_,.cons (d:=x) (ds:=xs) r1 t1,.cons (d:=y) (ds:=ys) r2 t2,ha,hb=>by
  have ha:(fb x&&dt xs)=true:=ha;have hb:(fb y&&dt ys)=true:=hb;rw[HU] at ha hb;rw[sT r1 r2 ha.1 hb.1,mT t1 t2 ha.2 hb.2]
end
mutual
theorem qo {h h':Heap}(k:∀a o n vs,h.get? a=some o->o.data=.seq vs n->h'.get? a=some o):∀{v:Value} {a:PyData} {as:List Addr},Reads h v a as->fb a=true->Reads h' v a as
 | _,_,_,.none,_=>.none
 | _,_,_,.int i t,_=>.int i t
 | _,_,_,.str x t,_=>.str x t
 | _,_,_,.tuple e1 c1 d1 r1,ha=>.tuple (k _ _ _ _ e1 d1) c1 d1 (me k r1 ha)
 | _,_,_,.bool _,ha=>by cases ha
 | _,_,_,.list ..,ha=>by cases ha
 | _,_,_,.dict ..,ha=>by cases ha
theorem me {h h':Heap}(k:∀a o n vs,h.get? a=some o->o.data=.seq vs n->h'.get? a=some o):∀{vs:List Value} {a:List PyData} {as:List Addr},ReadsAll h vs a as->dt a=true->ReadsAll h' vs a as
 | _,_,_,.nil,_=>.nil
 | _,_,_,.cons (d:=x) (ds:=xs) r1 t1,ha=>by
  have ha:(fb x&&dt xs)=true:=ha;rw[HU] at ha;exact .cons (qo k r1 ha.1) (me k t1 ha.2)
end
section
variable {prog:Program}{w:World}{E:AT}
abbrev CT (w:World)(d:PyData):Int:=PySem.W.hashW w.params (PySem.W.ofPy d)
mutual
theorem qq:∀(d:PyData) (v:Value) (as:List Addr) (A:Around) (s:Shared) (Q:Int->Shared->Prop),fb d=true->Reads s.heap v d as->A.units+d.depth<cLine ->
  Q (CT w d) { s with toks:=s.toks+ux d }->wpAny (model prog w) A (pyHash v) Q E s
 | .none,_,_,A,s,Q,_,x,hu,h=>by
  cases x;exact PySem.W.pyHash_slot (T := "NoneType") rfl F.slot_NoneType_hash F.entry_NoneType_hash (F.args_NoneType_hash_1 _) (beq_builtin_none _) (.inr ⋯) (J7 (J8 (J7 (wpAny_mkInt (J8 ⟨_,_,rfl,h⟩)))))
 | .int i,_,_,A,s,Q,_,x,_,h=>by
  cases x;refine wpAny_pyHash_int ?_;have e:=PySem.W.hashW_int w.params i;rw[<-e];exact h
 | .str y,_,_,A,s,Q,_,x,_,h=>by cases x;exact KD h
 | .tuple xs,_,_,A,s,Q,hk,x,hu,h=>by
  cases x with
  | @tuple a o vs n _ _ hg hc hd hw =>
   refine PySem.W.pyHash_slot (T := "tuple") ⟨_,hg,hc⟩ F.slot_tuple_hash F.entry_tuple_hash (F.args_tuple_hash_1 _) (beq_builtin_none _) (.inr ⋯) ?_;show wpAny _ _ (Builtin.Tuple.tupleItemsOf (.ref a) >>= _) _ _ s;refine J7 (wpAny_tupleItemsOf hg hd ?_);refine J7 ?_;rw[<-Array.forIn_toList];refine sU xs vs.toList _ A.in1 s #[] _ hk hw (by have:(PyData.tuple xs).depth=PyData.depthAll xs+1:=rfl;rw[Around.in1_units];omega) λ b hb=>?_
   show wpAny _ _ (retInt (Builtin.Tuple.tupleHashOf b.toList)) _ _ _;rw[hb];exact J7 (wpAny_mkInt (J8 ⟨_,_,rfl,h⟩))
 | .bool _,_,_,_,_,_,hk,_,_,_ | .list _,_,_,_,_,_,hk,_,_,_ | .dict _,_,_,_,_,_,hk,_,_,_=>by cases hk
theorem sU:∀(xs:List PyData) (vs:List Value) (as:List Addr) (A:Around) (s:Shared) (b:Array Int) (Q:Array Int->Shared->Prop),dt xs=true->ReadsAll s.heap vs xs as->A.units+PyData.depthAll xs<cLine ->
  (∀b',b'.toList=b.toList++PySem.W.hashesW w.params (PySem.W.ofPys xs)->Q b' { s with toks:=s.toks+mS xs }) ->
  wpAny (model prog w) A (forIn vs b λ x r=>do let h <-pyHash x;pure PUnit.unit;pure (ForInStep.yield (r.push h))) Q E s
 | [],_,_,A,s,b,Q,_,x,_,h=>by cases x;exact J8 (h b (by simp[PySem.W.hashesW,PySem.W.ofPys]))
 | k::xs,_,_,A,s,b,Q,hk,x,hu,h=>by
  cases x with
  | cons x1 x2 =>
   have hk:(fb k&&dt xs)=true:=hk;rw[HU] at hk;have hu:A.units+max k.depth (PyData.depthAll xs)<cLine:=hu;rw[IG];refine J7 (J7 (qq k _ _ A s _ hk.1 x1 ⋯ ?_));refine J7 (J8 (J8 ?_));refine sU xs _ _ A _ _ Q hk.2 x2 ⋯ λ b' hb=>?_
   have h2:=h b' (by simp[hb,PySem.W.hashesW,PySem.W.ofPys]);have e:mS (k::xs)=ux k+mS xs:=rfl;rw[e,<-Nat.add_assoc] at h2;exact h2
end
mutual
theorem sV:∀(d:PyData) (v:Value) (as:List Addr) (A:Around) (s:Shared) (n:Nat) (Q:Bool->Shared->Prop),fb d=true->Reads s.heap v d as->d.depth<=n->Q true s->wpAny (model prog w) A (eqIsQuiet n v) Q E s
 | .none,_,_,A,s,n,Q,_,x,_,h=>by cases x;unfold eqIsQuiet;exact J8 h
 | .int i,_,_,A,s,n,Q,_,x,_,h=>by cases x;unfold eqIsQuiet;exact J8 h
 | .str y,_,_,A,s,n,Q,_,x,_,h=>by cases x;unfold eqIsQuiet;exact J8 h
 | .tuple xs,_,_,A,s,n,Q,hk,x,hn,h=>by
  cases x with
  | @tuple a o vs n' _ _ hg hc hd hw =>
   have hn:PyData.depthAll xs+1<=n:=hn;obtain⟨n,rfl⟩:∃m,n=m+1:=⟨n-1,by omega⟩;have hT:s.TypeIs (.ref a) "tuple" := ⟨_,hg,hc⟩;unfold eqIsQuiet;refine J7 (wpAny_specialOf hT F.slot_tuple_eq.lookup ?_);show wpAny _ _ (isInstance (.ref a) (.type "tuple") >>= _) _ _ s;refine J7 (Ks hT isSubtype_tuple_tuple ?_);simp only[Bool.not_true,IB,if_false];refine J7 (Kd hg hd ?_);refine J7 ?_;show wpAny _ _ (forIn vs _ _) _ _ s;rw[<-Array.forIn_toList];have hall:=sW xs vs.toList _ A s n hk hw ⋯;refine wpAny_forIn_list _ (λ rest r s'=>r.1=none/\s' = s/\∀v∈rest,∀Q:Bool->Shared->Prop,Q true s->wpAny (model prog w) A (eqIsQuiet n v) Q E s) _ ?_ ?_ _ _ ⟨rfl,rfl,hall⟩
   ·rintro v rest r s' ⟨hr,rfl,hq⟩;refine J7 (hq v Hv _ ?_);simp only[Bool.not_true,IB,if_false];exact J8 ⟨rfl,rfl,λ u hu'=>hq u (Hx _ hu')⟩
   ·rintro⟨r1,r2⟩ s' ⟨hr,rfl,_⟩;simp only at hr;subst hr;exact J8 h
 | .bool _,_,_,_,_,_,_,hk,_,_,_ | .list _,_,_,_,_,_,_,hk,_,_,_ | .dict _,_,_,_,_,_,_,hk,_,_,_=>by cases hk
theorem sW:∀(xs:List PyData) (vs:List Value) (as:List Addr) (A:Around) (s:Shared) (n:Nat),dt xs=true->ReadsAll s.heap vs xs as->PyData.depthAll xs<=n->∀v∈vs,∀Q:Bool->Shared->Prop,Q true s->wpAny (model prog w) A (eqIsQuiet n v) Q E s
 | [],_,_,A,s,n,_,x,_=>by cases x;intro v hv;cases hv
 | k::xs,_,_,A,s,n,hk,x,hn=>by
  cases x with
  | cons x1 x2 =>
   have hk:(fb k&&dt xs)=true:=hk;rw[HU] at hk;have hn:max k.depth (PyData.depthAll xs)<=n:=hn;intro v hv Q h
   rcases Ho.mp hv with rfl | hv
   ·exact sV k _ _ A s n Q hk.1 x1 ⋯ h
   ·exact sW xs _ _ A s n hk.2 x2 ⋯ v hv Q h
end
end
structure gK (d:PyData):Prop where
 key:fb d=true
 lay:d.canLay0=true
 dep:d.depth<=7
 tup:∃xs,d=.tuple xs
def jG (prog:Program)(w:World):HeapKind prog w PyData where
 is:=λ h d a=>gK d/\∃as,Reads h (.ref a) d as
 hash:=CT w
 draws:=ux
 room:=λ A=>A.units+64<cLine
 inj:=λ ⟨h1,_,r1⟩ ⟨h2,_,r2⟩=>sT r1 r2 h1.key h2.key
 keeps:=λ {h h' k a d o es ep} ⟨h1,as,r1⟩ hd he hs=>⟨h1,as,qo (λ b u n vs e1 e2=>by
  have hne:b≠d:=by
   rintro rfl
   rw[hd] at e1
   cases e1
   rw[he] at e2
   cases e2
  exact (hs.2 b hne).trans e1) r1 h1.key⟩
 pyHash:=λ hu ⟨h1,_,r1⟩ h=>qq _ _ _ _ _ _ h1.key r1 (by have:=h1.dep;omega) h
 eqBool:=λ {A E s x y a b Q} hu ⟨h1,_,r1⟩ ⟨h2,_,r2⟩ h=>by
  refine PySem.SeqAt.eqAt_reads x y A s (.ref a) (.ref b) _ _ r1 r2 h1.lay h2.lay (by have:=h1.dep;have:=h2.dep;omega) prog w E Q ?_
  have e:PyData.eqv x y=decide (x=y):=by
   have:=rC h1.key h2.key
   by_cases hxy:x=y
   ·rw[decide_eq_true hxy];exact this.mpr hxy
   ·rw[decide_eq_false hxy];exact JS.mpr λ z=>hxy (this.mp z)
  rw[e]
  exact h
 quiet:=λ ⟨h1,_,r1⟩ h=>sV _ _ _ _ _ _ _ h1.key r1 (by have:=h1.dep;omega) h
abbrev KX (kvs:List (PyData×Addr×V))(xs:List (PyData×Addr×Value)):Prop:=Paired (λ (p:PyData×Addr×V) (q:PyData×Addr×Value)=>p.1=q.1/\p.2.1=q.2.1/\RelV p.2.2 q.2.2) kvs xs
def mU (P:Program)(w:World)(a:Addr)(kvs:List (PyData×Addr×V))(h:Heap):Prop:=(a == sysModules)=false/\kvs.length<=sizeLine /\
 ∃(xs:List (PyData×Addr×Value)) (o:Obj) (es:Array DictEntry) (ep:Nat),h.get? a=some o/\o.ExactDict/\o.data=.dict es ep/\es.toList=xs.map (entryOfKey (jG P w))/\(xs.map (·.1)).Nodup/\KX kvs xs
def fG (P:Program)(w:World)(a:Addr)(kvs:List (PyData×Addr×V)):HO:=.ext (mU P w a kvs)
theorem o8 {P:Program}{w:World}{H:Hp}{h:Heap}{a:Addr}{kvs:List (PyData×Addr×V)}(S:mU P w a kvs h):b0 P w H h a (fG P w a kvs) :=
 ⟨S,let ⟨_,_,_,o,_,_,e,_⟩:=S;⟨o,e⟩,λ h1 h2 ⟨s1,s2,xs,o,es,ep,e,r⟩ k=>⟨s1,s2,xs,o,es,ep,k o e,r⟩⟩
def CU (H:Hp)(kvs:List (PyData×Addr×V)):Prop:=∀p∈kvs,gK p.1/\bg H (.ref p.2.1) p.1
noncomputable def fA (kvs:List (PyData×Addr×V)) (d:PyData):Option V:=(kvs.find? λ p=>decide (p.1=d)).map (·.2.2)
noncomputable def putD (kvs:List (PyData×Addr×V)) (d:PyData) (k:Addr) (v:V):List (PyData×Addr×V):=if (fA kvs d).isSome then kvs.map (λ p=>if p.1=d then (p.1,p.2.1,v) else p) else kvs++[(d,k,v)]
theorem KX.val {d:PyData}:∀{kvs:List (PyData×Addr×V)} {xs:List (PyData×Addr×Value)},KX kvs xs->(fA kvs d=none/\atKey xs d=none)\/∃v a u,fA kvs d=some v/\atKey xs d=some (a,u)/\RelV v u
 | _,_,.nil=>.inl ⟨rfl,rfl⟩
 | _,_,.cons (a:=p) (b:=q) (l₁:=kvs) (l₂:=xs) ⟨e1,e2,e3⟩ t=>by
  by_cases h:p.1=d
  ·refine .inr ⟨p.2.2,q.2.1,q.2.2,?_,?_,e3⟩
   ·unfold fA;rw[J4 (by exact decide_eq_true h)];rfl
   ·unfold atKey;rw[J4 (by exact decide_eq_true (e1 ▸ h))];rfl
  ·have h':¬q.1=d:=λ z=>h (e1.trans z)
   have e4:fA (p::kvs) d=fA kvs d:=by unfold fA;rw[J5 (by rw[decide_eq_false h];decide)]
   have e5:atKey (q::xs) d=atKey xs d:=by unfold atKey;rw[J5 (by rw[decide_eq_false h'];decide)]
   rw[e4,e5];exact KX.val t
theorem KX.put {d:PyData}{k:Addr}{v:V}{u:Value}(r:RelV v u){kvs:List (PyData×Addr×V)}{xs:List (PyData×Addr×Value)}(h:KX kvs xs):KX (putD kvs d k v) (storedH xs d k u):=by
 have hv:=h.val (d:=d);unfold putD storedH
 rcases hv with ⟨h1,h2⟩ | ⟨v',a',u',h1,h2,_⟩
 ·rw[h1,h2];have app:∀{l:List (PyData×Addr×V)} {m:List (PyData×Addr×Value)},KX l m->KX (l++[(d,k,v)]) (m++[(d,k,u)]):=by
   intro l m q
   induction q with
   | nil=>exact .cons ⟨rfl,rfl,r⟩ .nil
   | cons hq _ ih=>exact .cons hq ih
  exact app h
 ·rw[h1,h2];show KX (kvs.map λ p=>if p.1=d then (p.1,p.2.1,v) else p) (xs.map (putAt d u));have go:∀{l:List (PyData×Addr×V)} {m:List (PyData×Addr×Value)},KX l m->KX (l.map λ p=>if p.1=d then (p.1,p.2.1,v) else p) (m.map (putAt d u)):=by
   intro l m q
   induction q with
   | nil=>exact .nil
   | @cons p q ps qs hq _ ih =>
    refine .cons ?_ ih;unfold putAt;dsimp only;by_cases e:p.1=d
    ·rw[if_pos e,if_pos (hq.1 ▸ e)];exact⟨hq.1,hq.2.1,r⟩
    ·rw[if_neg e,if_neg (λ z=>e (hq.1.trans z))];exact hq
  exact go h
theorem BF (kvs:List (PyData×Addr×V))(d:PyData)(k:Addr)(v:V):(putD kvs d k v).length<=kvs.length+1:=by
 unfold putD;split
 ·rw[Hk];omega
 ·rw[Ht];exact Hn _
theorem KX.keys:∀{kvs:List (PyData×Addr×V)} {xs:List (PyData×Addr×Value)},KX kvs xs->∀q∈xs,∃p∈kvs,p.1=q.1/\p.2.1=q.2.1
 | _,_,.nil,q,hq=>nomatch hq
 | _,_,.cons (a:=p) (l₁:=kvs) ⟨e1,e2,_⟩ t,q,hq=>by
  rcases Ho.mp hq with rfl | hq
  ·exact⟨p,Hv ..,e1,e2⟩
  ·obtain⟨p',hp',r⟩:=KX.keys t q hq;exact⟨p',Hx _ hp',r⟩
section
variable {X:Cx}{pins:BT}{Hh : St}{H:Hp}{s:Shared}{a k:Addr}{kvs:List (PyData×Addr×V)}{d:PyData}
theorem key_is (I:Inv X pins Hh H s)(hk:gK d)(r:bg H (.ref k) d):(jG X.prog X.w).is s.heap d k:=⟨hk,r.reads I.bc rfl⟩
theorem qr (I:Inv X pins Hh H s)(e:H a=some (fG X.prog X.w a kvs))(hk:CU H kvs):(a == sysModules)=false/\kvs.length<=sizeLine/\∃xs,KX kvs xs/\s.heap.DictOfH (jG X.prog X.w) a xs:=by
 obtain⟨h1,h2,xs,o,es,ep,g1,g2,g3,g4,g5,g6⟩:=(show mU X.prog X.w a kvs s.heap from (I.bc a _ e).1);refine⟨h1,h2,xs,g6,o,es,ep,g1,g2,g3,g4,λ x hx=>?_,g5⟩;obtain⟨p,hp,e1,e2⟩:=g6.keys x hx;have:=hk p hp;rw[<-e1,<-e2];exact key_is I this.1 this.2
theorem KX.len:∀{kvs:List (PyData×Addr×V)} {xs:List (PyData×Addr×Value)},KX kvs xs->kvs.length=xs.length
 | _,_,.nil=>rfl
 | _,_,.cons _ t=>congrArg (· + 1) (KX.len t)
theorem uy {A:Around}(hu:A.units+66<cLine){P:Program}{w:World}:(jG P w).room A.in1:=by show A.in1.units+64<cLine;rw[Around.in1_units];omega
structure yz (X:Cx) (H:Hp) (a k:Addr) (kvs:List (PyData×Addr×V)) (d:PyData):Prop where
 at_:H a=some (fG X.prog X.w a kvs)
 keys:CU H kvs
 key:gK d
 rd:bg H (.ref k) d
theorem DE (hu:X.A.units+66<cLine):eJ X (compareOp .In) (λ x y H Q=>∃k a d kvs,x=.ref k/\y=.ref a/\yz X H a k kvs d/\Q (.bl (fA kvs d).isSome) H):=by
 intro pins s Hh H x y v u Q I rx ry h;obtain⟨k,a,d,kvs,rfl,rfl,D,q⟩:=h;cases rx;cases ry;obtain⟨h1,h2,xs,kx,dd⟩:=qr I D.at_ D.keys;refine wpAny_in_heap (uy hu) (key_is I D.key D.rd) h1 dd ?_;have e:(atKey xs d).isSome=(fA kvs d).isSome:=by
  rcases kx.val (d:=d) with ⟨e1,e2⟩ | ⟨_,_,_,e1,e2,_⟩<;>rw[e1,e2]<;>rfl
 rw[e];exact⟨.bl _,H,I.tok _,rfl,q⟩
theorem yA (hu:X.A.units+66<cLine):eJ X (compareOp .NotIn) (λ x y H Q=>∃k a d kvs,x=.ref k/\y=.ref a/\yz X H a k kvs d/\Q (.bl (!(fA kvs d).isSome)) H):=by
 intro pins s Hh H x y v u Q I rx ry h;obtain⟨k,a,d,kvs,rfl,rfl,D,q⟩:=h;cases rx;cases ry;obtain⟨h1,h2,xs,kx,dd⟩:=qr I D.at_ D.keys;refine wpAny_notIn_heap (uy hu) (key_is I D.key D.rd) h1 dd ?_;have e:(atKey xs d).isSome=(fA kvs d).isSome:=by
  rcases kx.val (d:=d) with ⟨e1,e2⟩ | ⟨_,_,_,e1,e2,_⟩<;>rw[e1,e2]<;>rfl
 rw[e];exact⟨.bl _,H,I.tok _,rfl,q⟩
theorem DF {o i:Expr}{pos:Pos}{td ty:TE}(hu:X.A.units+66<cLine)(ho:PE X o td)(hi:PE X i ty)(hs:yf i) :
  PE X (.Subscript o i pos) (λ Hh H Q=>td Hh H λ x H1=>ty Hh H1 λ y H2=>∃k a d kvs v,x=.ref a/\y=.ref k/\yz X H2 a k kvs d/\fA kvs d=some v/\Q v H2):=by
 intro pins s Hh H Q I h;refine q9 PySem.F.slot_dict_getitem.lookup hs (bx (ho pins s Hh H _ I h) λ u s1 ⟨x,H1,I1,rx,q1⟩=>bx (hi pins s1 Hh H1 _ I1 q1) λ iv s2 ⟨y,H2,I2,ry,k,a,d,kvs,v,ex,ey,D,hv,q2⟩=>?_);subst ex ey;obtain rfl:u=Value.ref a:=rx;obtain rfl:iv=Value.ref k:=ry;obtain⟨h1,h2,xs,kx,dd⟩:=qr I2 D.at_ D.keys
 rcases kx.val (d:=d) with ⟨e1,_⟩ | ⟨v',a',u',e1,e2,e3⟩
 ·rw[e1] at hv;cases hv
 ·rw[e1] at hv;cases hv;exact⟨dd.typeIs,wpAny_getItem_heap (uy hu) (key_is I2 D.key D.rd) dd e2 ⟨_,H2,I2.tok _,e3,q2⟩⟩
theorem BG (hu:X.A.units+66<cLine):AA X (λ o i v H Q=>∃k a d kvs,o=.ref a/\i=.ref k/\yz X H a k kvs d/\kvs.length<sizeLine/\Q (upd H a (fG X.prog X.w a (putD kvs d k v)))):=by
 intro pins s Hh H o i v ov iv u Q I ro ri rv h;obtain⟨k,a,d,kvs,rfl,rfl,D,hz,q⟩:=h;cases ro;cases ri;obtain⟨h1,h2,xs,kx,dd⟩:=qr I D.at_ D.keys;refine wpAny_setItem_heap (uy hu) (key_is I D.key D.rd) dd (λ h' hm' hs'=>?_) (by rw[<-kx.len];exact h2);obtain⟨o',es,ep,g1,g2,g3,g4,g5,g6⟩:=id hm';refine⟨_,I.write (t':=_) (x:=a) (e:=a) (by rw[D.at_];exact trivial) (.inl rfl) (λ c u' hc hu=>(hs'.2 c hc).trans hu) ⟨o',g1⟩ (o8 ⟨h1,?_,storedH xs d k u,o',es,ep,g1,g2,g3,g4,g6,kx.put rv⟩),q⟩;have:=BF kvs d k v;omega
end
open LS
section
variable {X:Cx}
end
def rD (a0 a1:V):List (Str×V):=[("members",a0),("places",a1)]
section
variable {a0 a1 z:V}
theorem ia:(rD a0 a1).lookup ("members" : Str)=some a0:=EY
theorem iU:(rD a0 a1).lookup ("places" : Str)=some a1:=(Bn ⋯ EY)
theorem qt:eZ "members" a0 ([]:List (Str×V))=([("members",a0)]:List (Str×V)):=EZ
theorem zY:eZ "places" a1 ([("members",a0)]:List (Str×V))=rD a0 a1:=(GR ⋯ EZ)
theorem vn:(rD a0 a1).lookup ("place_of" : Str)=none:=(Bn ⋯ (Bn ⋯ rfl))
end
structure vo (K:Hl) (C:Addr):Prop where
 cl:lW K C
 members:iQ K C "members"
 places:iQ K C "places"
abbrev vN (ms:List Nat):List V:=ms.map λ k=>V.int (k:Nat)
def lB (m d:Addr)(H H':Hp):Prop:=∀c o,H c=some o->c≠m->c≠d->H' c=some o
theorem lB.refl {m d:Addr}{H:Hp}:lB m d H H:=λ _ _ h _ _=>h
theorem lB.of_same {m d:Addr}{H H':Hp}(h:ah H H'):lB m d H H':=λ c o e _ _=>h c o e
section
variable {C r m d:Addr}{H H':Hp}{ms:List Nat}
end
section
variable (C:Addr)
end
def Hg:Piece->Bool
 | ([],.go _)=>true
 | _=>false
theorem gZ {l:List Nat}{n:Nat}(nd:l.Nodup)(h:∀x∈l,x<n):l.length<=n:=by
 have:=sub_len nd (m:=HY n) λ x hx=>IQ.mpr (h x hx)
 simpa using this
def jY:End->List V
 | .stop=>[.str "stop"]
 | .go _=>[.str "go"]
 | .aR b x n _ _=>[.str (wT b),.str x,.int n]
def BH:End->List Nat->End
 | .go _,[a]=>.go a
 | .aR b x n _ _,[a,c]=>.aR b x n a c
 | e,_=>e
theorem BI {e:End}{ns:List Nat}(h:ns.length=(aU e).length):bR (BH e ns)=jY e++vN ns:=by
 cases e with
 | stop=>match ns,h with | [],_=>rfl
 | go p=>match ns,h with | [a],_=>rfl
 | aR b x n p q=>match ns,h with | [a,c],_=>rfl
theorem zZ {H:Hp}{t:Addr}{e:End}(h:H t=some (.tup (bR e))):bg H (.ref t) (e6 e):=by
 cases e with
 | stop=>exact .tup h (.cons (.str _) .nil)
 | go p=>exact .tup h (.cons (.str _) (.cons (.int _) .nil))
 | aR b x n p q=>exact .tup h (.cons (.str _) (.cons (.str _) (.cons (.int _) (.cons (.int _) (.cons (.int _) .nil)))))
theorem BJ {ms:List Nat}{k:Nat}(h:ms.Nodup):(LS.putIn ms k).Nodup:=by
 unfold LS.putIn;split
 ·exact h
 ·next hk =>
  rw[IV];refine⟨h,by simp,λ x hx y hy z=>?_⟩;rw[Hm.mp hy] at z;exact hk (z ▸ hx)
inductive mV  (vs:List V) (H:Hp) (Q:VK) (_:XK):Prop
 | mk (ea:Addr) (e:End) (_:vs=[.ref ea]) (_:H ea=some (.tup (bR e))) (_:∀t H',H' t=some (.tup (jY e))->ah H H'->Q (.ref t) H')
theorem dU:∀ds:List PyData,(∀d∈ds,d.canLay0=true)->(PyData.tuple ds).canLay0=true
 | [],_=>rfl
 | d::ds,h=>by
  have ih:=dU ds λ x hx=>h x (Hx _ hx)
  show (d.canLay0&&(PyData.tuple ds).canLay0)=true;rw[h d (Hv ..),ih];rfl
theorem rE {m:Nat}:∀ds:List PyData,(∀d∈ds,d.depth<=m)->PyData.depthAll ds<=m
 | [],_=>HL _
 | d::ds,h=>by
  have ih:=rE ds λ x hx=>h x (Hx _ hx)
  have h1:=h d (Hv ..);show max d.depth (PyData.depthAll ds)<=m;omega
theorem BK (d:cH):(bI d).depth<=1:=by cases d<;>exact Hn 1
theorem fY {x:Str}(h:dM x):PyData.canLay0 (.str x)=true:=by
 show (x.cps.all λ c=>decide (c<0x110000))=true;rw[<-Array.all_toList,Ir];intro c hc;have:=h.az c hc;exact decide_eq_true ⋯
theorem BL {xs:List Str}(hx:∀x∈xs,dM x){d:cH}(h:fz xs d):(bI d).canLay0=true:=by
 cases d with
 | put x n =>
  refine dU _ λ y hy=>?_
  rcases Ho.mp hy with rfl | hy
  ·decide
  rcases Ho.mp hy with rfl | hy
  ·exact fY (hx _ h.1)
  rw[Hm.mp hy];rfl
 | copy x z =>
  refine dU _ λ y hy=>?_
  rcases Ho.mp hy with rfl | hy
  ·decide
  rcases Ho.mp hy with rfl | hy
  ·exact fY (hx _ h.1)
  rw[Hm.mp hy];exact fY (hx _ h.2)
 | add x n =>
  refine dU _ λ y hy=>?_
  rcases Ho.mp hy with rfl | hy
  ·decide
  rcases Ho.mp hy with rfl | hy
  ·exact fY (hx _ h.1)
  rw[Hm.mp hy];rfl
 | read x =>
  refine dU _ λ y hy=>?_
  rcases Ho.mp hy with rfl | hy
  ·decide
  rw[Hm.mp hy];exact fY (hx _ h)
 | tell x =>
  refine dU _ λ y hy=>?_
  rcases Ho.mp hy with rfl | hy
  ·decide
  rw[Hm.mp hy];exact fY (hx _ h)
theorem DG {xs:List Str}(hx:∀x∈xs,dM x){c:Nat}{e:End}(h:jU xs c e):(e6 e).canLay0=true:=by
 cases e with
 | stop =>
  refine dU _ λ y hy=>?_
  rw[Hm.mp hy];decide
 | go p =>
  refine dU _ λ y hy=>?_
  rcases Ho.mp hy with rfl | hy
  ·decide
  rw[Hm.mp hy];rfl
 | aR b x n p q =>
  refine dU _ λ y hy=>?_
  rcases Ho.mp hy with rfl | hy
  ·cases b<;>decide
  rcases Ho.mp hy with rfl | hy
  ·exact fY (hx _ h.1)
  rcases Ho.mp hy with rfl | hy
  ·rfl
  rcases Ho.mp hy with rfl | hy
  ·rfl
  rw[Hm.mp hy];rfl
def j4 (ps:List Piece):Prop:=∀p∈ps,(PyData.tuple (p.1.map bI)).canLay0=true/\(e6 p.2).canLay0=true
theorem iA {xs:List Str}(hx:∀x∈xs,dM x){m:Nat}{ps:List Piece}(ok:cI xs m ps):j4 ps:=λ p hp =>
 ⟨dU _ λ d hd=>by obtain⟨x,hx',rfl⟩:=HE.mp hd;exact BL hx ((ok.eX p hp).2 x hx'),DG hx (ok.ends p hp)⟩
theorem rF (k:Nat):∀ms:List Nat,sC (.int (k:Nat)) (vN ms)=decide (k∈ms)
 | []=>rfl
 | m::ms=>by
  have ih:=rF k ms;show ((((m:Nat):Int) == ((k:Nat):Int))||sC (.int (k:Nat)) (vN ms))=_;rw[ih];by_cases e:m=k
  ·subst e;simp
  ·have e':¬(m:Int)=(k:Int):=by omega
   rw[beq_false_of_ne e',Bool.false_or];have:k∈m::ms↔k∈ms:=by rw[Ho];exact⟨λ h=>h.resolve_left λ z=>e z.symm,.inr⟩
   simp only[this]
theorem xj (ms:List Nat):(vN ms).all iK=true:=by rw[Ir];intro v hv;obtain⟨k,_,rfl⟩:=HE.mp hv;rfl
theorem z6 (ms:List Nat):vN ms=(ms.map λ k:Nat=>(k:Int)).map V.int:=by rw[IU];rfl
structure NF (X:Cx) (a:Addr):Prop where
 none_:∀o,X.eQ.heap.get? a=some o->X.kQ a=none->a∉X.ex->False
 tup:∀xs,X.kQ a≠some (.tup xs)
 eC:∀o u,X.kQ a≠some (.eC o u)
 mw:∀ps,X.kQ a≠some (.mw ps)
section
variable {X:Cx}{pins:BT}{Hh : L2.St}{H:Hp}{s:Shared}{a:Addr}
theorem Inv.nf {kvs:List (Key×V)}(I:Inv X pins Hh H s)(e:H a=some (.dK kvs)):NF X a where
 none_:=λ o h1 h2 h3=>by
  have:=I.base.free a o h1 h2 h3;rw[e] at this;cases this
 tup:=λ xs h=>by
  have:=I.base.aM a xs h;rw[e] at this;cases this
 eC:=λ o u h=>by
  have:=I.base.iW a o u h;rw[e] at this;cases this
 mw:=λ ps h=>by
  obtain⟨more,this⟩:=I.base.jh a ps h;rw[e] at this;cases this
theorem Inv.swap {u u':HO}(I:Inv X pins Hh H s)(nf:NF X a)(e:H a=some u)(no:∀y,u≠.own y)(nt:∀xs,u≠.tup xs)(new:b0 X.prog X.w (upd H a u') s.heap a u'):Inv X pins Hh (upd H a u') s where
 ok:=I.ok
 os:=I.os
 bare:=I.bare
 base:={
  keep:=I.base.keep
  slot:=I.base.slot
  free:=λ b o h1 h2 h3=>by
   by_cases z:b=a
   ·subst z;exact absurd (nf.none_ o h1 h2 h3) id
   ·rw[av z];exact I.base.free b o h1 h2 h3
  there:=I.base.there
  aM:=λ b xs h=>by
   have z:b≠a:=λ z=>by subst z;exact nf.tup xs h
   rw[av z];exact I.base.aM b xs h
  iW:=λ b o v h=>by
   have z:b≠a:=λ z=>by subst z;exact nf.eC o v h
   rw[av z];exact I.base.iW b o v h
  jh:=λ b ps h=>by
   have z:b≠a:=λ z=>by subst z;exact nf.mw ps h
   rw[av z];exact I.base.jh b ps h }
 loc:=I.loc
 cell:=I.cell
 free:=by rw[av (λ z=>by have:=I.free;rw[z,e] at this;cases this)];exact I.free
 fD:=λ x c h=>by rw[av (λ z=>by have:=I.fD x c h;rw[z,e] at this;cases this)];exact I.fD x c h
 pin:=λ p hp=>by
  obtain⟨h1,h2,h3⟩:=I.pin p hp;exact⟨h1,by rw[av (λ z=>by rw[z,e] at h2;cases h2)];exact h2,h3⟩
 bc:=λ b o h=>by
  by_cases z:b=a
  ·subst z;rw[af] at h;cases h;exact new
  ·rw[av z] at h;refine (I.bc b o h).oQ (λ _ _ _ q=>q) (λ c q=>?_) λ c xs q=>?_
   ·rw[av (λ y=>by rw[y,e] at q;exact no _ (HB.inj q))];exact q
   ·rw[av (λ y=>by rw[y,e] at q;exact nt _ (HB.inj q))];exact q
 len:=I.len
end
theorem DH {P:Program}{w:World}{k:Key}{v:Value}(h:(ba P w).is k v=true):RelV (kV k) v:=by
 cases k with
 | inr x=>exact j2 h
 | inl i =>
  obtain⟨t,e⟩:=Value.isInt_shape (show Value.isInt i v=true from h);exact⟨t,e⟩
def F8 (a:Addr)(kvs:List (Key×V))(ob:Obj):It :=
 ⟨λ i H=>H a=some (.eC ob (.dK kvs))/\i<kvs.length,λ i H x H'=>H' = H/\∃k v,kvs[i]?=some (k,v)/\x=kV k,λ i H=>H a=some (.eC ob (.dK kvs))/\kvs.length<=i⟩
theorem z7 {P:Program}{w:World}{K:Hl}{tg:Expr}{kvs:List (Key×V)}{vs:List (Key×Value)}{ob:Obj}{ep:Nat}(a it:Addr)(hat:∀h:Heap,h.get? a=some ob->h.DictAt (ba P w) a vs ep)(rel:KV kvs vs) :
  Turn P w K tg (F8 a kvs ob) [it] it (λ i h=>h.IsKeyIter it a i vs.length ep) where
 mem:=by simp
 obj:=λ i h st b hb=>by
  have e:b=it:=by simpa using hb
  subst e;obtain⟨o,e,c,d⟩:=st;exact⟨o,e,λ v z=>by rw[d] at z;cases z⟩
 keep:=λ i h h' st k=>st.at λ o e=>k it (by simp) o e
 item:=by
  intro X hP hw hK hc i pins s Hh H E I hf st hg;subst hP hw hK;obtain⟨ha,hi⟩:=hg;obtain⟨e0,_⟩:=(show b0 X.prog X.w H s.heap a (.eC ob (.dK kvs)) from I.bc a _ ha);have hvi:i<vs.length:=by rw[<-rel.length];exact hi
  have hx:vs[i]?=some vs[i]:=by simp[hvi]
  generalize vs[i]=p at hx;obtain⟨k,u⟩:=p;obtain⟨v,hkv⟩:∃v,kvs[i]?=some (k,v):=by
   have e1:(vs.map (·.1))[i]?=some k:=by rw[HC,hx];rfl
   rw[<-rel.keys,HC] at e1;cases e2:kvs[i]? with
   | none=>rw[e2] at e1;cases e1
   | some q =>
    rw[e2] at e1;obtain⟨k',v⟩:=q;cases (HB.inj e1);exact⟨v,rfl⟩
  obtain⟨f0,f1,f2,f3,f4,f5⟩:=hf it (by simp);refine wpAny_pyNext_dict_item st (hat _ e0) hx λ key h' hkey st' sb=>?_
  have I1:Inv X pins Hh H { s with heap:=h' }:=I.turned (t':=s.toks) (λ b o hb e=>(sb.2 b hb).trans e) f0 f1 f3 f4 f5;obtain⟨o,e,c,d⟩:=id st';exact⟨key,rfl,uo (s:={ s with heap:=h' }) e c d ⋯ ⟨kV k,H,I1,DH hkey,⟨rfl,k,v,hkv,rfl⟩,st',λ b hb=>(hf b hb).1⟩⟩
 done:=by
  intro X hP hw hK hc i pins s Hh H E I hf st hg;subst hP hw hK;obtain⟨ha,hi⟩:=hg;obtain⟨e0,_⟩:=(show b0 X.prog X.w H s.heap a (.eC ob (.dK kvs)) from I.bc a _ ha);obtain⟨f0,f1,f2,f3,f4,f5⟩:=hf it (by simp);exact wpAny_pyNext_dict_end (I.ok.hd hc) st (hat _ e0) (Je (by rw[<-rel.length];exact hi)) λ h' eb=>⟨rfl,I.turned (t':=s.toks) (λ b o hb e=>eb b o hb e) f0 f1 f3 f4 f5⟩
 self:=λ _ _ _ _ _ st h=>wpAny_pyIter_keyiter st h
section
variable {X:Cx}
def FO (i:Nat)(X:Cx):TI:=λ Hh H R=>∃v,Hh[i]?=some (some v)/\∃a kvs,v=.ref a/\H a=some (.dK kvs)/\∀ob,NF X a->R (F8 a kvs ob) (upd H a (.eC ob (.dK kvs)))
theorem DI {tg l:Expr}{i:Nat}(hl:PE X l (oR i)):PI X tg l (FO i X):=by
 intro pins s Hh H R I h;obtain⟨v0,hv0,a,kvs,rfl,ha,q⟩:=h;refine bx (hl pins s Hh H (λ x H1=>x=.ref a/\H1=H) I ⟨_,hv0,rfl,rfl⟩) λ v s1 ⟨x,H1,I1,r1,e1,e2⟩=>?_
 subst e1 e2;cases r1;have nf:=I1.nf ha;obtain⟨z,hd,vs,rel,dd⟩:=pT I1.bc ha;obtain⟨ep,ob,es,ho,rest⟩:=dd.dictAt;have I2:Inv X pins Hh (upd H1 a (.eC ob (.dK kvs))) s1:=I1.swap nf ha (λ _ h=>nomatch h) (λ _ h=>nomatch h) ⟨ho,mJ z hd rel ⟨ob,es,ep,ho,rest⟩⟩;refine wpAny_pyIter_dict hd ⟨ob,es,ho,rest⟩ ?_;refine⟨s1.heap.objs.size,[s1.heap.objs.size],_,_,_,rfl,I2.kept (t':=s1.toks) λ b o e=>Hr _ e,z7 a _ (λ h e=>⟨ob,es,e,rest⟩) rel,⟨_,Hs _ rfl,rfl,rfl⟩,λ b hb=>?_,q ob nf⟩;have e:b=s1.heap.objs.size:=by simpa using hb
 subst e;exact I2.kT (Hn _) (I2.bc.fresh (Hn _))
def FP (i:Nat)(g:TG)(tb:TS):TS:=λ D Hh H=>∃v,Hh[i]?=some (some v)/\∃a kvs,v=.ref a/\H a=some (.dK kvs)/\∀ob,∃Pv:Nat->L2.St->Hp->Prop,Pv 0 Hh (upd H a (.eC ob (.dK kvs))) /\
 (∀j Hi H2,Pv j Hi H2->H2 a=some (.eC ob (.dK kvs))) /\
 (∀j k u Hi H2,kvs[j]?=some (k,u)->Pv j Hi H2->g (kV k) Hi H2 λ τ3 H3=>tb { D with nx:=Pv (j+1),ct:=Pv (j+1),bk:=λ τ4 H4=>∃ob',H4 a=some (.eC ob' (.dK kvs))/\D.nx τ4 (upd H4 a (.dK kvs)),rt:=λ r H4=>∃ob',H4 a=some (.eC ob' (.dK kvs))/\D.rt r (upd H4 a (.dK kvs)) } τ3 H3) /\
 (∀Hi H2,Pv kvs.length Hi H2->D.nx Hi (upd H2 a (.dK kvs)))
theorem E8 {pins:BT}{Hh : L2.St}{H:Hp}{s:Shared}{a:Addr}{ob:Obj}{kvs:List (Key×V)}(I:Inv X pins Hh H s)(nf:NF X a)(e:H a=some (.eC ob (.dK kvs))):Inv X pins Hh (upd H a (.dK kvs)) s:=by
 obtain⟨z,hd,vs,rel,dd⟩:=nI I.bc (.inr ⟨ob,e⟩);exact I.swap nf e (λ _ h=>nomatch h) (λ _ h=>nomatch h) (mJ z hd rel dd)
theorem xk {tg l:Expr}{body:List Stmt}{i:Nat}{g:TG}{tb:TS}{pos:Pos}(hp:PassesOwn (model X.prog X.w) X.A X.env X.xe)(hc:X.calm=true)(hl:PE X l (oR i))(hg:PG X tg g)(hb:ji X body tb)
  (hs:∀x,foldedSetIterable l X.env x=pure x:=by intro _;rfl):PS X (.For tg l body [] pos) (FP i g tb):=by
 intro pins s Hh H D I h;obtain⟨v,hv,a,kvs,rfl,ha,h⟩:=h;have nf:=I.nf ha;refine bx (dJ hp hc (DI hl) hg hb hs pins s Hh H { nx:=λ Hi H2=>∃ob,H2 a=some (.eC ob (.dK kvs))/\D.nx Hi (upd H2 a (.dK kvs)),rt:=λ r H2=>∃ob,H2 a=some (.eC ob (.dK kvs))/\D.rt r (upd H2 a (.dK kvs)),bk:=D.bk,ct:=D.ct } I ?_) λ f s' q=>?_
 ·refine⟨_,hv,a,kvs,rfl,ha,λ ob _=>?_⟩;obtain⟨Pv,p0,pf,ps,pe⟩:=h ob;exists λ j m Hi H2=>m=kvs.length-j/\j<=kvs.length/\Pv j Hi H2,⟨kvs.length,by simp,HL _,p0⟩;rintro j m Hi H2 ⟨rfl,hj,p⟩;by_cases hlt:j<kvs.length
  ·refine .inr ⟨⟨pf j Hi H2 p,hlt⟩,Pv (j+1),λ τ' H' p'=>⟨kvs.length-(j+1),by omega,rfl,hlt,p'⟩,λ x H' y=>?_⟩;obtain⟨e1,k,u,e2,e3⟩:=y;subst e1 e3;exact ps j k u Hi _ e2 p
  ·have e:j=kvs.length:=by omega
   subst e;exact .inl ⟨⟨pf _ Hi H2 p,Hn _⟩,ob,pf _ Hi H2 p,pe Hi H2 p⟩
 ·cases f with
  | next =>
   obtain⟨Hi,H2,I2,ob,e,q⟩:=q;exact⟨Hi,_,E8 I2 nf e,q⟩
  | brk=>exact q
  | cont=>exact q
  | ret u =>
   obtain⟨r,Hi,H2,I2,rr,ob,e,q⟩:=q;exact⟨r,Hi,_,E8 I2 nf e,rr,q⟩
end
def LT (H:Hp)(d:Addr)(T:Str->Sx)(m:Nat):Prop:=∃kvs ks,H d=some (.dK kvs)/\Tb 0 H kvs ks T/\(∀x∈ks,T x≠cF)/\ks.length<=m
theorem LT.aM {H H':Hp}{d:Addr}{T:Str->Sx}{m:Nat}(h:LT H d T m)(hd:∀o,H d=some o->H' d=some o)(k:∀p xs,H p=some (.tup xs)->H' p=some (.tup xs)):LT H' d T m:=by
 obtain⟨kvs,ks,h1,h2,h3,h4⟩:=h;exact⟨kvs,ks,hd _ h1,h2.aM k,h3,h4⟩
theorem LT.same {H H':Hp}{d:Addr}{T:Str->Sx}{m:Nat}(h:LT H d T m)(s:ah H H'):LT H' d T m:=h.aM (λ o e=>s _ _ e) λ p xs e=>s _ _ e
theorem LT.get {H:Hp}{T:Str->Sx}{kvs:List (Key×V)}{ks:List Str}{t:Addr}(tb:Tb 0 H kvs ks T)(cl:∀x∈ks,T x≠cF)(ht:H t=some (.tup [.aZ,.aZ]))(x:Str):∃v,(cw kvs (Sum.inr x)).getD (.ref t)=v/\SH H v (T x):=by
 rcases tb.val x with ⟨a,b,_⟩ | ⟨v,a,b,c⟩
 ·exact⟨_,by rw[a];rfl,t,rfl,by rw[b];exact ht⟩
 ·refine⟨v,by rw[a];rfl,?_⟩
  rcases b with b | ⟨_,b⟩
  ·exact b
  ·exact absurd b (cl x c)
theorem sX {T:Str->Sx}{x:Str}(h:T x=cF):b8 T x cF=T:=by
 funext y
 unfold b8;by_cases e:y=x
 ·rw[if_pos e,e,h]
 ·rw[if_neg e]
theorem z8 {T:Str->Sx}{x:Str}{s t:Sx}:b8 (b8 T x s) x t=b8 T x t:=by
 funext y
 unfold b8;by_cases e:y=x
 ·rw[if_pos e,if_pos e]
 ·rw[if_neg e,if_neg e,if_neg e]
theorem sY (k j:Key):∀kvs:List (Key×V),cw (fk kvs k) j=if j=k then none else cw kvs j
 | []=>by simp[fk,cw]
 | p::r=>by
  have ih:=sY k j r;by_cases e:p.1=k
  ·rw[sL e,ih];by_cases z:j=k
   ·rw[if_pos z,if_pos z]
   ·rw[if_neg z,if_neg z,dm (p:=p) (λ w:p.1=j=>z (w.symm.trans e))]
  ·rw[sM e];by_cases w:p.1=j
   ·rw[dC w,dC w,if_neg (λ z=>e (w.trans z))]
   ·rw[dm w,dm w,ih]
theorem Tb.drop {aA:Addr}{H:Hp}{kvs:List (Key×V)}{ks:List Str}{T:Str->Sx}(h:Tb aA H kvs ks T)(x:Str):Tb aA H (fk kvs (Sum.inr x)) (ks.filter λ y=>decide (y≠x)) (b8 T x cF) where
 keys:=by
  have go:∀(kvs:List (Key×V)) (ks:List Str),kvs.map (·.1)=ks.map Sum.inr->(fk kvs (Sum.inr x)).map (·.1)=(ks.filter λ y=>decide (y≠x)).map Sum.inr:=by
   intro kvs
   induction kvs with
   | nil =>
    intro ks e;cases ks with
    | nil=>rfl
    | cons a b=>simp at e
   | cons p r ih =>
    intro ks e;cases ks with
    | nil=>simp at e
    | cons a b =>
     rw[HN,HN] at e;injection e with e1 e2
     by_cases z:a=x
     ·rw[sL (by rw[e1,z]),Jv (by simp[z])];exact ih b e2
     ·rw[sM (λ w=>z (Sum.inr.inj (e1.symm.trans w))),JT (by simp[z]),HN,HN,ih b e2,e1]
  exact go kvs ks h.keys
 nd:=h.nd.filter _
 val:=λ y=>by
  rw[sY];unfold b8;by_cases e:y=x
  ·subst e;rw[if_pos rfl,if_pos rfl];exact .inl ⟨rfl,rfl,by simp⟩
  ·rw[if_neg (λ z=>e (Sum.inr.inj z)),if_neg e]
   rcases h.val y with ⟨a,b,c⟩ | ⟨v,a,b,c⟩
   ·exact .inl ⟨a,b,λ z=>c (Iu.mp z).1⟩
   ·exact .inr ⟨v,a,b,Iu.mpr ⟨c,by simp[e]⟩⟩
theorem z9 {kvs:List (Key×V)}{k:Key}{v:V}{j:Nat}(nd:(kvs.map (·.1)).Nodup)(h:kvs[j]?=some (k,v)):putK (kvs.take j) k v=kvs.take (j+1):=by
 have hj:j<kvs.length:=(HD.mp h).1;have hn:¬k∈(kvs.take j).map (·.1):=λ hm=>by
  have hs:(kvs.take (j+1)).map (·.1)=(kvs.take j).map (·.1)++[k]:=by
   rw[HM,h,HA];rfl
  have nd2:((kvs.take (j+1)).map (·.1)).Nodup:=by
   rw[List.map_take];exact nd.sublist (List.take_sublist _ _)
  rw[hs,IV] at nd2;exact nd2.2.2 k hm k (by simp) rfl
 have hv:cw (kvs.take j) k=none:=by
  cases e:cw (kvs.take j) k with
  | none=>rfl
  | some u=>exact absurd (Dw e) hn
 rw[Bd _ hv,HM,h];rfl
inductive rG  (vs:List V) (H:Hp) (Q:VK) (_:XK):Prop
 | mk (d:Addr) (T:Str->Sx) (_:vs=[.ref d]) (_:LT H d T 63) (_:∀v H',FV H' v T->ah H H'->Q v H')
inductive nP  (vs:List V) (H:Hp) (Q:VK) (_:XK):Prop
 | mk (d:Addr) (T:Str->Sx) (m:Nat) (x:Str) (sv:V) (s:Sx) (_:vs=[.ref d,.str x,sv]) (_:LT H d T m) (_:m<=60) (_:SH H sv s) (_:∀d' H',LT H' d' (b8 T x s) (m+1)->ah H H'->Q (.ref d') H')
def Sound (T:Str->Sx)(w:Str->Int):Prop:=∀x,cN (w x) (T x).1 (T x).2=true
theorem BM {x:Str}(h:dM x):PyData.canLay0 (.str x)=true:=by
 show (x.cps.all λ c=>decide (c<0x110000))=true;rw[<-Array.all_toList,Ir];intro c hc;have:=h.az c hc;exact decide_eq_true ⋯
def fH (lo lo2:Option Int):Bool:=match lo2,lo with
 | none,_=>true
 | some _,none=>false
 | some a,some b=>decide (a<=b)
def dI (hi hi2:Option Int):Bool:=match hi2,hi with
 | none,_=>true
 | some _,none=>false
 | some a,some b=>decide (b<=a)
def jH (s t:Sx):Bool:=fH s.1 t.1&&dI s.2 t.2
def gM (T:Str->Sx)(m:Nat):Prop:=∀ss:List Str,(∀x∈ss,T x≠cF)->ss.Nodup->ss.length<=m
inductive xl (aA:Addr) (vs:List V) (H:Hp) (Q:VK) (_:XK):Prop
 | mk (fv:V) (x:Str) (T:Str->Sx) (_:vs=[fv,.str x]) (_:FV H fv T) (_:∀v H',SV aA H' v (T x)->ah H H'->Q v H')
inductive oz (aA:Addr) (vs:List V) (H:Hp) (Q:VK) (_:XK):Prop
 | mk (fv sv:V) (x:Str) (T:Str->Sx) (s:Sx) (_:vs=[fv,.str x,sv]) (_:FV H fv T) (_:SV aA H sv s) (_:gM T 62) (_:∀v H',FV H' v (b8 T x s)->ah H H'->Q v H')
inductive sZ (K:Hl) (vs:List V) (H:Hp) (Q:VK) (_:XK):Prop
 | mk (p q:Addr) (s t:Sx) (_:vs=[.ref p,.ref q]) (_:au K H p [vO s.1,vO s.2]) (_:au K H q [vO t.1,vO t.2]) (_:Q (.bl (jH s t)) H)
inductive vp  (vs:List V) (H:Hp) (Q:VK) (_:XK):Prop
 | mk (fv:V) (d:Addr) (kvs:List (Key×V)) (w:Str->Int) (T:Str->Sx) (_:vs=[fv,.ref d]) (_:FV H fv T) (_:H d=some (.dK kvs)) (_:DW kvs w) (_:gM T 63) (_:∀b H',(b=true↔Sound T w)->ah H H'->Q (.bl b) H')
inductive vt  (vs:List V) (H:Hp) (Q:VK) (_:XK):Prop
 | mk (fv gv:V) (T U:Str->Sx) (_:vs=[fv,gv]) (_:FV H fv T) (_:FV H gv U) (_:gM T 63) (_:∀b H',(b=true↔∀x,jH (U x) (T x)=true)->ah H H'->Q (.bl b) H')
theorem Aa {T:Str->Sx}{w:Str->Int}{ss:List Str}(hm:∀x,x∈ss↔T x≠cF):(ss.map λ x=>cN (w x) (T x).1 (T x).2).all id=true↔Sound T w:=by
 rw[Ir]
 constructor
 ·intro h x;by_cases e:T x=cF
  ·rw[e];rfl
  ·exact h _ (HE.mpr ⟨x,(hm x).mpr e,rfl⟩)
 ·intro h b hb;obtain⟨x,_,rfl⟩:=HE.mp hb;exact h x
theorem nQ (s:Sx):jH s cF=true:=by
 obtain⟨a,b⟩:=s;cases a<;>cases b<;>rfl
theorem Ab {T U:Str->Sx}{ss:List Str}(hm:∀x,x∈ss↔T x≠cF):(ss.map λ x=>jH (U x) (T x)).all id=true↔∀x,jH (U x) (T x)=true:=by
 rw[Ir]
 constructor
 ·intro h x;by_cases e:T x=cF
  ·rw[e];exact nQ _
  ·exact h _ (HE.mpr ⟨x,(hm x).mpr e,rfl⟩)
 ·intro h b hb;obtain⟨x,_,rfl⟩:=HE.mp hb;exact h x
section
variable {X:Cx}
end
theorem BN (s:Sx):jH s s=true:=by
 obtain⟨a,b⟩:=s;cases a<;>cases b<;>simp[jH,fH,dI]
theorem LT.E9 {H:Hp}{d b:Addr}{T:Str->Sx}{m:Nat}(h:LT H d T m)(B:cy H b):d≠b:=by
 obtain⟨kvs,ks,g1,_⟩:=h;obtain⟨x,y,e,_⟩:=B;exact bP g1 e (by intro z;cases z)
theorem LT.fix {H H':Hp}{d b:Addr}{T:Str->Sx}{m:Nat}(h:LT H d T m)(B:cy H b)(X:Fix b H H'):LT H' d T m :=
 h.aM (λ o e=>X d o e (h.E9 B)) λ p zs e=>X p _ e (B.bK e)
theorem LT.up {H:Hp}{d:Addr}{T:Str->Sx}{m n:Nat}(h:LT H d T m)(le:m<=n):LT H d T n:=by
 obtain⟨kvs,ks,g1,g2,g3,g4⟩:=h;exact⟨kvs,ks,g1,g2,g3,Hu g4 le⟩
inductive rH (K:Hl) (vs:List V) (H:Hp) (Q:VK) (_:XK):Prop
 | mk (n:Int) (q:Addr) (lo hi:Option Int) (_:vs=[.int n,.ref q]) (_:au K H q [vO lo,vO hi]) (_:Q (.bl (cN n lo hi)) H)
inductive mW (K:Hl) (F:Option Int->Option Int->Int->Rs) (vs:List V) (H:Hp) (Q:VK) (_:XK):Prop
 | mk (p:Addr) (n:Int) (lo hi:Option Int) (_:vs=[.ref p,.int n]) (_:au K H p [vO lo,vO hi]) (_:∀v H',RV H' v (F lo hi n)->ah H H'->Q v H')
inductive xm (K:Hl) (vs:List V) (H:Hp) (Q:VK) (_:XK):Prop
 | mk (p:Addr) (w:Str) (n:Int) (side:Bool) (lo hi:Option Int) (_:vs=[.ref p,.str w,.int n,.bl side]) (_:au K H p [vO lo,vO hi]) (_:∀v H',RV H' v (dX w lo hi n side)->ah H H'->Q v H')
def cW (T:Str->Sx)(b:Bool)(x:Str)(n:Int)(side:Bool):Rs:=dX (wT b) (T x).1 (T x).2 n side
def gN (T:Str->Sx):End->List (Option (Str->Sx))
 | .stop=>[]
 | .go _=>[some T]
 | .aR b x n _ _=>[(cW T b x n true).map (b8 T x),(cW T b x n false).map (b8 T x)]
def BV (H:Hp)(u:V):Option (Str->Sx)->Prop
 | none=>u=.aZ
 | some T=>FV H u T
theorem BV.same {H H':Hp}{u:V}{o:Option (Str->Sx)}(h:BV H u o)(s:ah H H'):BV H' u o:=by
 cases o with
 | none=>exact h
 | some T=>exact FV.same h s
theorem BV.aM {H H':Hp}{u:V}{o:Option (Str->Sx)}(h:BV H u o)(k:∀p xs,H p=some (.tup xs)->H' p=some (.tup xs)):BV H' u o:=by
 cases o with
 | none=>exact h
 | some T=>exact FV.aM h k
def mf (H:Hp)(us:List V)(os:List (Option (Str->Sx))):Prop:=Paired (BV H) us os
def cQ (T:Str->Sx)(e:End):List (Nat×(Str->Sx)):=((aU e).zip (gN T e)).filterMap λ p=>p.2.map λ U=>(p.1,U)
inductive o9 (aA:Addr) (vs:List V) (H:Hp) (Q:VK) (_:XK):Prop
 | mk (fv:V) (ea:Addr) (T:Str->Sx) (e:End) (_:vs=[fv,.ref ea]) (_:FV H fv T) (_:H ea=some (.tup (bR e))) (_:gM T 62) (_:∀(t:Addr) (us:List V) (H':Hp),H' t=some (.tup us)->mf H' us (gN T e)->ah H H'->Q (.ref t) H')
def PV (H:Hp)(v:V)(p:Nat×(Str->Sx)):Prop:=∃q u,v=.ref q/\H q=some (.tup [.int p.1,u])/\FV H u p.2
theorem PV.aM {H H':Hp}{v:V}{p:Nat×(Str->Sx)}(h:PV H v p)(k:∀p xs,H p=some (.tup xs)->H' p=some (.tup xs)):PV H' v p:=by
 obtain⟨q,u,e,h1,h2⟩:=h;exact⟨q,u,e,k _ _ h1,h2.aM k⟩
def mX (H:Hp)(vs:List V)(ps:List (Nat×(Str->Sx))):Prop:=Paired (PV H) vs ps
theorem mX.aM {H H':Hp}(k:∀p xs,H p=some (.tup xs)->H' p=some (.tup xs)):∀{vs:List V} {ps:List (Nat×(Str->Sx))},mX H vs ps->mX H' vs ps
 | _,_,.nil=>.nil
 | _,_,.cons h t=>.cons (h.aM k) (mX.aM k t)
theorem mf.aM {H H':Hp}(k:∀p xs,H p=some (.tup xs)->H' p=some (.tup xs)):∀{vs:List V} {ps:List (Option (Str->Sx))},mf H vs ps->mf H' vs ps
 | _,_,.nil=>.nil
 | _,_,.cons h t=>.cons (h.aM k) (mf.aM k t)
theorem mX.same {H H':Hp}{vs:List V}{ps:List (Nat×(Str->Sx))}(h:mX H vs ps)(s:ah H H'):mX H' vs ps:=h.aM λ p xs e=>s _ _ e
theorem mf.same {H H':Hp}{vs:List V}{ps:List (Option (Str->Sx))}(h:mf H vs ps)(s:ah H H'):mf H' vs ps:=h.aM λ p xs e=>s _ _ e
inductive rJ (aA:Addr) (vs:List V) (H:Hp) (Q:VK) (_:XK):Prop
 | mk (fv:V) (ea:Addr) (T:Str->Sx) (e:End) (_:vs=[fv,.ref ea]) (_:FV H fv T) (_:H ea=some (.tup (bR e))) (_:gM T 62) (_:∀(t:Addr) (vs:List V) (H':Hp),H' t=some (.tup vs)->mX H' vs (cQ T e)->ah H H'->Q (.ref t) H')
def vv (T:Str->Sx):Prop:=∀x,T x≠cF->PyData.canLay0 (.str x)=true
theorem Ac {T:Str->Sx}(h:vv T):∀ss:List Str,(∀x∈ss,T x≠cF)->(fX T ss).canLay0=true
 | [],_=>rfl
 | x::ss,hs=>by
  have ih:=Ac h ss λ y hy=>hs y (Hx _ hy)
  show ((PyData.canLay0 (.str x)&&((dS (T x)).canLay0&&true))&&(fX T ss).canLay0)=true;rw[h x (hs x (Hv ..)),yx,ih];rfl
theorem Fb (T:Str->Sx)(ss:List Str):(fX T ss).depth<=3:=by
 have go:∀ss:List Str,PyData.depthAll (ss.map (dF T))<=2:=by
  intro ss
  induction ss with
  | nil=>exact HL _
  | cons x ss ih =>
   show max (max 0 (max ((dS (T x)).depth) 0)+1) (PyData.depthAll (ss.map (dF T)))<=2;have hd:(dS (T x)).depth<=1:=by
    obtain⟨a,b⟩:=T x;cases a<;>cases b<;>(show (1:Nat)<=1;decide)
   omega
 show PyData.depthAll (ss.map (dF T))+1<=3;have:=go ss;omega
theorem DJ {T:Str->Sx}{e:End}(h:(aU e).length<2):gN T e=(aU e).map λ _=>some T:=by
 cases e with
 | stop=>rfl
 | go p=>rfl
 | aR b x n p q=>exact absurd h (by show ¬2<2;omega)
theorem xn {H:Hp}{fv:V}{T:Str->Sx}(h:FV H fv T):∀l:List Nat,mf H (JE l.length fv) (l.map λ _=>some T)
 | []=>.nil
 | _::l=>.cons h (xn h l)
def oA (H:Hp)(vs:List V)(rs:List Rs):Prop:=Paired (RV H) vs rs
theorem oA.same {H H':Hp}(s:ah H H'):∀{vs:List V} {rs:List Rs},oA H vs rs->oA H' vs rs
 | _,_,.nil=>.nil
 | _,_,.cons h t=>.cons (h.same s) (oA.same s t)
theorem oA.put {H:Hp}{l:Addr}{xs:List V}{o:HO}(hl:H l=some (.lst xs)):∀{vs:List V} {rs:List Rs},oA H vs rs->oA (upd H l o) vs rs
 | _,_,.nil=>.nil
 | _,_,.cons h t=>.cons (h.put hl) (oA.put hl t)
theorem RV.sv {aA:Addr}{H:Hp}{v:V}{s:Sx}(h:RV H v (some s)):SV aA H v s:=by
 obtain⟨a,b⟩:=s;obtain⟨p,e,h⟩:=h;exact .inl ⟨p,e,h⟩
def mY (ss:List Str):PyData:=.tuple (ss.map λ x=>.tuple [.str x,.tuple [.int 0,.int 0]])
inductive xo  (vs:List V) (H:Hp) (Q:VK) (_:XK):Prop
 | mk (plv:V) (ps:List Piece) (xs:List Str) (m:Nat) (_:vs=[plv]) (_:bg H plv (eF ps)) (_:cI xs m ps) (_:xs.length<64) (_:(b6 ps).length<=4000) (_:∀(v:V) (ss:List Str) (H':Hp),bg H' v (mY ss)->ss.Perm (eG (b6 ps))->sortedS ss=true->ah H H'->Q v H')
theorem hG:∀ss:List Str,cT (ss.map λ x=>PyData.tuple [.str x,.tuple [.int 0,.int 0]])=true
 | []=>rfl
 | x::ss=>by
  show (true&&cT (ss.map λ x=>PyData.tuple [.str x,.tuple [.int 0,.int 0]]))=true;rw[hG ss];rfl
theorem Ad {T:Str->Sx}{e:End}{i k:Nat}{o:Option (Str->Sx)}(h1:(aU e)[i]?=some k)(h2:(gN T e)[i]?=some o) :
  (((aU e).zip (gN T e)).take (i+1)).filterMap (λ p=>p.2.map λ U=>(p.1,U))=(((aU e).zip (gN T e)).take i).filterMap (λ p=>p.2.map λ U=>(p.1,U))++(o.map λ U=>(k,U)).toList:=by
 have hz:((aU e).zip (gN T e))[i]?=some (k,o):=by rw[List.getElem?_zip_eq_some];exact⟨h1,h2⟩
 rw[HM,hz,List.filterMap_append];cases o<;>rfl
theorem en {α β : Type}{F:α->β->Prop}{l:List α}{m:List β}(h:Paired F l m){i:Nat}{x:α}(e:l[i]?=some x):∃y,m[i]?=some y/\F x y:=LS.lr h e
theorem dY {α β : Type}{F:α->β->Prop}:∀{l l':List α} {m m':List β},Paired F l m->Paired F l' m'->Paired F (l++l') (m++m')
 | _,_,_,_,.nil,h=>h
 | _,_,_,_,.cons r t,h=>.cons r (dY t h)
section
variable {prog:Program}{w:World}{A:Around}{E:AT}{s:Shared}
end
section
variable {X:Cx}
end
def pd (lo hi:Option Int):Rs:=match lo,hi with
 | some a,some b=>if b<a then none else some (some a,some b)
 | lo,hi=>some (lo,hi)
theorem Ae (lo hi:Option Int)(n:Int):pd lo (some (iY hi n))=gG lo hi n:=by
 cases lo<;>rfl
theorem BO (lo hi:Option Int)(n:Int):pd (some (iZ lo n)) hi=iL lo hi n:=by
 cases hi<;>rfl
theorem DK {lo hi:Option Int}{n:Int}(le:iR lo hi):pd (if lo=some n then some (n+1) else lo) (if hi=some n then some (n-1) else hi)=jA lo hi n:=by
 unfold jA;by_cases h1:lo=some n
 ·rw[if_pos h1,if_pos h1];by_cases h2:hi=some n
  ·rw[if_pos h2,if_pos h2];show (if n-1<n+1 then none else _)=none;rw[if_pos ⋯]
  ·rw[if_neg h2,if_neg h2];subst h1;cases hi with
   | none=>rfl
   | some h =>
    have:n<=h:=le;have:¬h=n:=λ z=>h2 (by rw[z])
    show (if h<n+1 then none else _)=_;rw[if_neg ⋯]
 ·rw[if_neg h1,if_neg h1];by_cases h2:hi=some n
  ·rw[if_pos h2,if_pos h2];subst h2;cases lo with
   | none=>rfl
   | some a =>
    have:a<=n:=le;have:¬a=n:=λ z=>h1 (by rw[z])
    show (if n-1<a then none else _)=_;rw[if_neg ⋯]
  ·rw[if_neg h2,if_neg h2];cases lo with
   | none=>rfl
   | some a =>
    cases hi with
    | none=>rfl
    | some h =>
     have:a<=h:=le;show (if h<a then none else _)=_;rw[if_neg ⋯]
inductive xp  (vs:List V) (H:Hp) (Q:VK) (_:XK):Prop
 | mk (p:Addr) (b:Bool) (n:Int) (side:Bool) (lo hi:Option Int) (_:vs=[.ref p,.str (wT b),.int n,.bl side]) (_:H p=some (.tup [vO lo,vO hi])) (_:iR lo hi) (_:∀v H',RV H' v (dX (wT b) lo hi n side)->ah H H'->Q v H')
theorem LT.put {H:Hp}{d l:Addr}{T:Str->Sx}{m:Nat}{xs:List V}{o:HO}(h:LT H d T m)(hl:H l=some (.lst xs)):LT (upd H l o) d T m:=by
 refine h.aM (λ u e=>?_) λ p zs e=>by rw[av (bP e hl (by intro z;cases z))];exact e
 obtain⟨kvs,ks,g,_⟩:=h;rw[av (bP g hl (by intro z;cases z))];exact e
theorem DL {xs:List Str}{m:Nat}{ps:List Piece}(ok:cI xs m ps):(b6 ps).length<=ps.length*(2*m+1):=by
 unfold b6;have h:∀p∈ps,(pNames p).length<=2*m+1:=λ p hp=>by
  have h1:=(ok.eX p hp).1;unfold pNames;rw[Ht];have h2:(p.1.flatMap eO).length<=2*p.1.length:=by
   induction p.1 with
   | nil=>simp
   | cons d ds ih =>
    rw[List.flatMap_cons,Ht,HX];have:(eO d).length<=2:=by cases d<;>simp[eO]
    omega
  have h3:(jD p.2).length<=1:=by cases p.2<;>simp[jD]
  omega
 clear ok
 induction ps with
 | nil=>simp
 | cons p ps ih =>
  rw[List.flatMap_cons,Ht,HX];have h1:=h p (Hv ..);have h2:=ih λ q hq=>h q (Hx _ hq)
  rw[Nat.add_mul];omega
theorem we {K:Hl}{cd:Value}{q:Str}(h:IT K cd q=true):JU K cd=true:=by
 unfold IT at h;unfold JU;split at h
 ·split at h
  ·rename_i ho
   dsimp only;rw[ho]
  ·cases h
 ·cases h
theorem DM {prog:Program}{w:World}{A:Around}{E:AT}{s:Shared}{Q:AT}(q:Q (.ref s.heap.objs.size) { s with heap:=s.heap.push (dn w) }):wpAny (model prog w) A (newSet (.type "set")) Q E s:=by
 unfold newSet setsByText;refine J7 (J7 (Kz (J8 ?_)));dsimp only;simp only[newObj]
 first
  | exact Kx (J8 q)
  | exact J7 (Kx (J8 q))
  | exact J7 (Kx (J8 (J8 q)))
  | exact J7 (Kx q)
section
variable {X:Cx}
theorem DN {e:Expr}{k:Nat}{pos:Pos}{te:TE}(hc:JU X.K X.env.code=true)(he:PE X e te)(hk:displayRoad k [e]=.oneByOne:=by rfl)(hs:starEach [e] X.env=[(false,eval e X.env)]:=by rfl) :
  PE X (.Set [e] k pos) (λ Hh H Q=>∀l,H l=none->te Hh (upd H l (cV X.prog X.w l [])) λ x H1=>H1 l=some (cV X.prog X.w l [])/\∃kk,x=kV kk/\Q (.ref l) (upd H1 l (cV X.prog X.w l [kk]))):=by
 intro pins s Hh H Q I h;rw[arm_eval_Set];refine J7 (Kr ?_);refine J7 (PySem.W.kds_main I.ft hc λ b=>?_);rw[hs,hk];unfold setDisplay;dsimp only;rw[if_neg ⋯];refine J7 (DM ?_);dsimp only;simp only[HN,List.map_nil,HX,JJ,Nat.reduceAdd,gt_iff_lt,Nat.reduceLT,if_false,List.findIdx?_cons,List.findIdx?_nil,Option.map_none,Option.getD_none,List.take_succ_cons,List.take_zero,List.drop_succ_cons,List.drop_nil,evalAll,IB];have hS:e7 (ba X.prog X.w) (s.heap.push (dn X.w)) s.heap.objs.size []:=mL rfl (Hs _ rfl);have I1:Inv X pins Hh (upd H s.heap.objs.size (cV X.prog X.w s.heap.objs.size [])) { s with heap:=s.heap.push (dn X.w) }:=I.laid (t':=s.toks) (λ b o e=>Hr _ e) (Hn _) (kH hS);refine J7 (Kb ?_);refine J7 (J7 (J7 (bx (he pins _ Hh _ _ I1 (h _ I.fresh)) λ v s1 ⟨x,H1,I2,rx,hl1,kk,ex,q⟩=>J7 (Kr (J8 ?_)))));subst ex;refine J7 (Kb (J8 (J8 ?_)));refine J7 (Kb ?_);simp only[IG,IZ];refine J7 (J7 (J7 (rA (nL rx) (I2.rp hl1) ⋯ λ h' b S' c=>J8 ?_)));refine J8 ?_;rw[if_neg ⋯];refine J8 ?_;refine J7 (J8 (J8 (J8 ?_)));have e1:LS.putIn ([]:List Key) kk=[kk]:=by unfold LS.putIn;rw[if_neg (by simp)];rfl
 rw[e1] at S';refine⟨.ref s.heap.objs.size,_,I2.write (t':=s1.toks+1) (x:=s.heap.objs.size) (e:=s.heap.objs.size) (by rw[hl1];exact trivial) (.inl rfl) (λ c u' hc hu=>b.extBut c u' hc hu) ?_ (kH S'),rfl,q⟩;obtain⟨o,_,_,_,So⟩:=S';exact⟨o,So.at_⟩
end
section
variable {prog:Program}{w:World}{A:Around}{E:AT}{s:Shared}
theorem Af {d:Addr}(hd:(d == sysModules)=false) :
  MeetsIn prog w (Builtin.«dict.__len__» ⟨[.ref d],[]⟩) (λ _ R s=>∃(o:Obj) (es:Array DictEntry) (ep:Nat),s.heap.get? d=some o/\o.data=.dict es ep/\R (.ok (.ret (.int es.size s.toks))) { s with toks:=s.toks+1 }) :=
 .of_wp λ A R s ⟨o,es,ep,ho,hdat,h⟩=>by
  show wpAny _ _ (dictSize d >>= _) _ _ s;unfold dictSize;refine J7 (J7 (wpAny_dictEntries ho hdat (J8 ?_)));show wpAny _ _ (Builtin.Dict.pendingCount d >>= _) _ _ s;refine J7 (wpAny_pendingCount_other hd ?_);refine wpAny_ret_mkInt ?_;rw[Nat.add_zero];exact h
theorem DO {d:Addr}{o:Obj}{es:Array DictEntry}{ep:Nat}{Q:AT}(hd:(d == sysModules)=false)(ho:s.heap.get? d=some o)(hc:o.ExactDict)(hdat:o.data=.dict es ep)(hfit:(es.size:Int)<2 ^ 63)
  (h:Q (.int es.size (s.toks+1)) { s with toks:=s.toks+1+1 }):wpAny (model prog w) A (call (.builtin "len") [.ref d]) Q E s:=by
 refine Calls.call_function_entry kind_len plain_len entry_len (args_len1 _) ?_;have hT:s.TypeIs (.ref d) "dict" := ⟨o,ho,hc.1⟩;unfold Builtin.«len»;refine J7 (m:=oneArg "len" _) (J8 ?_);refine J7 (m:=callSpecial? (.ref d) (Str.ofString "__len__")) (wpAny_callSpecial?_slot (name:=Str.ofString "__len__") hT F.slot_dict_len
  (call_meetsIn F.slot_dict_len hT F.entry_dict_len (F.args_dict_len_1 _) (Af hd) ⟨o,es,ep,ho,hdat,?_⟩))
 show wpAny _ _ _ _ _ { s with toks:=s.toks+1 };refine J7 (Kb (J8 ?_));refine J7 (Kq ?_);show wpAny _ _ (if ((es.size:Nat):Int)<0 then _ else _) _ _ _;rw[if_neg ⋯];show wpAny _ _ (if ((es.size:Nat):Int) >= 2 ^ 63 then _ else _) _ _ _;rw[if_neg ⋯];exact J7 (wpAny_mkInt (J8 ⟨_,rfl,h⟩))
end
section
variable {X:Cx}
theorem yB:eR X (.builtin "len") (λ xs H Q=>∃a kvs,xs=[V.ref a]/\H a=some (fG X.prog X.w a kvs)/\Q (.int kvs.length) H):=by
 intro pins s Hh H xs us Q I r h;obtain⟨a,kvs,rfl,ha,q⟩:=h;obtain⟨u,rfl,ru⟩:=vals1 r;cases ru;obtain⟨h1,h2,xs,o,es,ep,g1,g2,g3,g4,g5,g6⟩:=(show mU X.prog X.w a kvs s.heap from (I.bc a _ ha).1);have hz:es.size=kvs.length:=by rw[g6.len,<-Ih,g4,Hk]
 have hn:=jn;refine DO h1 g1 g2 g3 ⋯ ?_;rw[hz];exact⟨.int _,H,I.tok _,⟨_,rfl⟩,q⟩
theorem BP {pos:Pos}{keys:List (Option Expr)}{values:List Expr}{trs:List (TE×TE)}(hu:X.A.units+66<cLine)(h:CP X pos keys values trs)(hall:keys.all (·.isSome)=true)(hl:keys.length=values.length)(h0:keys≠[])
  (h15:keys.length<=15):PE X (.Dict keys values pos) (λ Hh H Q=>∀p,H p=none->uW trs Hh (upd H p (fG X.prog X.w p [])) λ ps H2=>H2 p=some (fG X.prog X.w p [])/\∃k v d,ps=[(.ref k,v)]/\gK d/\bg H2 (.ref k) d/\Q (.ref p) (upd H2 p (fG X.prog X.w p [(d,k,v)]))):=by
 intro pins s Hh H Q I q;have hn:=I.bc.fresh (Hn s.heap.objs.size);obtain⟨_,hb,_⟩:=(show b0 X.prog X.w H _ s.heap.objs.size (.dK []) from uV s.heap I.big);have D0:mU X.prog X.w s.heap.objs.size [] (s.heap.push { cls:=.type "dict",data:=.dict #[] }):=⟨hb,HL _,[],_,#[],0,Hs _ rfl,⟨rfl,rfl,rfl⟩,rfl,rfl,Jd,.nil⟩;have I1:=I.laid (a:=s.heap.objs.size) (o:=fG X.prog X.w s.heap.objs.size []) (h':=s.heap.push { cls:=.type "dict",data:=.dict #[] }) (t':=s.toks) (λ _ _ q=>Hr _ q) (Hn _) (o8 D0);refine wpAny_Dict_any hall hl h0 h15 (bx (h pins _ Hh _ _ I1 (q _ hn)) λ ws s2 ⟨ps,H2,I2,rel,e,k,v,d,ep,hk,r,q2⟩=>?_);subst ep;cases rel with
 | @cons _ wp _ _ hr t =>
 cases t;obtain⟨wk,wv⟩:=wp;obtain⟨r1,r2⟩:=hr;cases (show wk=Value.ref k from r1);obtain⟨hd0,_,xs,kx,dd⟩:=qr I2 e (λ p hp=>nomatch hp);cases kx;unfold storeAll;simp only[IG,IZ];refine J7 (J7 (wpAny_dictSet_heap (knd:=jG X.prog X.w) (show X.A.units+64<cLine by omega) (key_is I2 hk r) dd (λ h' hm' hs'=>J8 (J8 ?_)) (HL _)));obtain⟨o',es,ep,g1,g2,g3,g4,g5,g6⟩:=id hm';refine⟨.ref s.heap.objs.size,_,I2.write (t':=_) (x:=s.heap.objs.size) (e:=s.heap.objs.size) (by rw[e];exact trivial) (.inl rfl) (λ c u' hc hu=>(hs'.2 c hc).trans hu) ⟨o',g1⟩ (o8 ⟨hd0,(by show 1<=sizeLine;decide),[(d,k,wv)],o',es,ep,g1,g2,g3,g4,g6,.cons ⟨rfl,rfl,r2⟩ .nil⟩),rfl,q2⟩
end
section
variable {X:Cx}
end
theorem vw {A:Around}{k:Nat}(hr:dz k A):A.units+66<cLine:=by have:=hr.un;omega
section
variable {P:Program}{w:World}{K:Hl}{mg:Ch}{base:Heap}
theorem b4.Hd {x qual:Str}{st:Stmt}{f:Addr}{fd:FuncData}{N ps:List Str}{k:Nat}{sp:Sp}(F:b4 K x qual st f fd)(S:aV N ps (aI st))(len:∀vs H Q E,sp vs H Q E->vs.length=ps.length)
  (hbody:∀(cdv:Value) (A:Around) (outer:List Env) (s:Shared) (H:Hp) (vs:List V) (Q:VK) (E:XK),JU K cdv=true->dz k (A.deeper (envOfC qual (aI st) s.heap.objs.size f cdv))->sp vs H Q E ->
   ∃t,ji (oX bY P w K mg base N qual (aI st) f cdv A outer s H E).wK (dE st) t/\t { nx:=λ _ H'=>Q .aZ H',rt:=Q } (start N vs) H):bA P w K mg base bY (k+1) f fd ps sp:=by
 obtain⟨oc,od,kV,doc,pm,an,cdv,ct,osl,rfl,lk,hcd⟩:=F.ex;refine CC lk hcd S len λ A outer s H vs Q E hr hsp=>?_
 obtain⟨t,h,q⟩:=hbody cdv A outer s H vs Q E (we hcd) hr hsp;exact⟨t,h.wK,q⟩
end
def dH:Nat->List (PyData×Addr)->List (PyData×Addr×V)
 | _,[]=>[]
 | n,p::ps=>(p.1,p.2,.int (n:Nat))::dH (n+1) ps
theorem ph:∀(n:Nat) (ms:List (PyData×Addr)),(dH n ms).length=ms.length
 | _,[]=>rfl
 | n,_::ms=>congrArg (· + 1) (ph (n+1) ms)
theorem vx:∀(n:Nat) (ms:List (PyData×Addr)) (p:PyData×Addr),dH n (ms++[p])=dH n ms++[(p.1,p.2,.int ((n+ms.length:Nat):Int))]
 | n,[],p=>rfl
 | n,q::ms,p=>by
  show (q.1,q.2,V.int (n:Nat))::dH (n+1) (ms++[p])=_;rw[vx (n+1) ms p,show n+1+ms.length=n+(q::ms).length by rw[HX];omega];rfl
theorem vy:∀(n:Nat) (ms:List (PyData×Addr)),∀q∈dH n ms,∃p∈ms,q.1=p.1/\q.2.1=p.2
 | _,[],q,hq=>nomatch hq
 | n,p::ms,q,hq=>by
  rcases Ho.mp hq with rfl | hq
  ·exact⟨p,Hv ..,rfl,rfl⟩
  ·obtain⟨p',hp,r⟩:=vy (n+1) ms q hq;exact⟨p',Hx _ hp,r⟩
theorem lC (d:PyData):∀(n:Nat) (ms:List (PyData×Addr)),fA (dH n ms) d=if d∈ms.map (·.1) then some (.int ((n+(ms.map (·.1)).idxOf d:Nat):Int)) else none
 | n,[]=>by simp[dH,fA]
 | n,p::ms=>by
  have ih:=lC d (n+1) ms;by_cases h:p.1=d
  ·have e1:fA (dH n (p::ms)) d=some (.int (n:Nat)):=by
    unfold fA dH;rw[J4 (by exact decide_eq_true h)];rfl
   rw[e1,if_pos (by rw[HN,h];exact Hv ..),HN,h,List.idxOf_cons_self];rfl
  ·have e1:fA (dH n (p::ms)) d=fA (dH (n+1) ms) d:=by
    show fA ((p.1,p.2,V.int (n:Nat))::dH (n+1) ms) d=_;unfold fA;rw[J5 (by rw[decide_eq_false h];decide)]
   rw[e1,ih,HN];by_cases hm:d∈ms.map (·.1)
   ·rw[if_pos hm,if_pos (Hx _ hm),List.idxOf_cons,beq_false_of_ne h];simp only[cond_false]
    congr 3
    omega
   ·rw[if_neg hm,if_neg (λ z=>(Ho.mp z).elim (λ z=>h z.symm) hm)]
structure ib (P:Program) (w:World) (C:Addr) (H:Hp) (r m d:Addr) (ms:List (PyData×Addr)):Prop where
 ob:∃dx,H r=some (.ins C dx (rD (.ref m) (.ref d)))
 mem:H m=some (.lst (ms.map λ p=>V.ref p.2))
 mZ:H d=some (fG P w d (dH 0 ms))
 keys:∀p∈ms,gK p.1/\bg H (.ref p.2) p.1
noncomputable def lF (ms:List (PyData×Addr)) (d:PyData) (k:Addr):List (PyData×Addr):=if d∈ms.map (·.1) then ms else ms++[(d,k)]
section
variable {P:Program}{w:World}{C r m d:Addr}{H H':Hp}{ms:List (PyData×Addr)}
theorem ib.kn (A:ib P w C H r m d ms):CU H (dH 0 ms):=λ q hq=>by
 obtain⟨p,hp,e1,e2⟩:=vy 0 ms q hq;rw[e1,e2];exact A.keys p hp
theorem ib.He (A:ib P w C H r m d ms):r≠m/\r≠d/\d≠m:=by
 obtain⟨dx,h1⟩:=A.ob;refine⟨bP h1 A.mem ?_,bP h1 A.mZ ?_,bP A.mZ A.mem ?_⟩<;>(intro z;cases z)
end
section
variable (P:Program)(w:World)(C:Addr)
inductive qu  (vs:List V) (H:Hp) (Q:VK) (_:XK):Prop
 | mk (r dx k:Addr) (d0:PyData) (_:vs=[.ref r,.ref k]) (_:H r=some (.ins C dx [])) (_:gK d0) (_:bg H (.ref k) d0) (_:cP d0=true) (_:∀(m d:Addr) (H':Hp),ib P w C H' r m d [(d0,k)]->(∀c o,H c=some o->c≠r->H' c=some o)->H m=none->H d=none->Q .aZ H')
inductive qw  (vs:List V) (H:Hp) (Q:VK) (_:XK):Prop
 | mk (r m d k:Addr) (d0:PyData) (ms:List (PyData×Addr)) (_:vs=[.ref r,.ref k]) (_:ib P w C H r m d ms) (_:ms.length<=1000) (_:gK d0) (_:bg H (.ref k) d0) (_:cP d0=true) (_:(∀p∈ms,cP p.1=true)) (_:∀H',ib P w C H' r m d (lF ms d0 k)->lB m d H H'->Q (.int (((lF ms d0 k).map (·.1)).idxOf d0:Nat)) H')
end
inductive m3 (ps:List Piece):Nat->Prop
 | zero:m3 ps 0
 | step {i k:Nat} {ds:List cH} {e:End}:m3 ps i->ps[i]?=some (ds,e)->k∈aU e->m3 ps k
def dh (ps:List Piece)(k:Nat):Prop:=∃i ds e,m3 ps i/\ps[i]?=some (ds,e)/\k∈aU e/\k<=i
abbrev kI (ks:List Nat):List Key:=ks.map λ k:Nat=>(Sum.inl (k:Int):Key)
theorem vz {ks:List Nat}{k:Nat}:(Sum.inl (k:Int):Key)∈kI ks↔k∈ks:=by
 rw[HE]
 constructor
 ·rintro⟨x,hx,e⟩;have:=Sum.inl.inj e;rw[show k=x by omega];exact hx
 ·intro h;exact⟨k,h,rfl⟩
theorem Ag {ks:List Nat}{k:Nat}:LS.putIn (kI ks) (Sum.inl (k:Int))=kI (LS.putIn ks k):=by
 unfold LS.putIn;by_cases h:k∈ks
 ·rw[if_pos h,if_pos (vz.mpr h)]
 ·rw[if_neg h,if_neg (λ z=>h (vz.mp z))];show _=(ks++[k]).map _;rw[HA];rfl
theorem xq (ks:List Nat):kI ks=(ks.map λ k:Nat=>(k:Int)).map Sum.inl:=by rw[IU];rfl
structure yC (ps:List Piece) (ks ws:List Nat):Prop where
 nd:ks.Nodup
 lt:∀k∈ks,k<ps.length
 Fc:∀k∈ks,m3 ps k
 zero:0∈ks
 sub:∀k∈ws,k∈ks
 done:∀k∈ks,k∈ws\/∀ds e,ps[k]?=some (ds,e)->∀j∈aU e,j∈ks
theorem yC.all {ps:List Piece}{ks:List Nat}(h:yC ps ks []):∀k,k∈ks↔m3 ps k:=λ k=>by
 refine⟨h.Fc k,λ r=>?_⟩
 induction r with
 | zero=>exact h.zero
 | step r hp hk ih=>exact (h.done _ ih).elim (λ z=>nomatch z) λ z=>z _ _ hp _ hk
theorem rK {ps:List Piece}(hin:ef ps){i:Nat}{ds:List cH}{e:End}(h:ps[i]?=some (ds,e)):∀k∈aU e,k<ps.length:=λ k hk=>by
 have h1:=hin _ (Hy h);cases e with
 | stop=>cases hk
 | go p=>rw[Hm.mp hk];exact h1
 | aR b x n p q =>
  rcases Ho.mp hk with z | z
  ·rw[z];exact h1.1
  ·rw[Hm.mp z];exact h1.2
inductive tf  (vs:List V) (H:Hp) (Q:VK) (_:XK):Prop
 | mk (plv:V) (ps:List Piece) (_:vs=[plv]) (_:bg H plv (eF ps)) (_:ef ps) (_:0<ps.length) (_:ps.length<=60) (_:∀(t:Addr) (ks:List Nat) (H':Hp),H' t=some (.tup (vN ks))->(∀k,k∈ks↔m3 ps k)->(∀k∈ks,k<ps.length)->ks.length<=60->ah H H'->Q (.ref t) H')
inductive xr  (vs:List V) (H:Hp) (Q:VK) (_:XK):Prop
 | mk (plv:V) (ps:List Piece) (_:vs=[plv]) (_:bg H plv (eF ps)) (_:ef ps) (_:0<ps.length) (_:ps.length<=60) (_:∀(t:Addr) (ks:List Nat) (H':Hp),H' t=some (.tup (vN ks))->(∀k,k∈ks↔dh ps k)->ks.length<=60->ah H H'->Q (.ref t) H')
theorem m5 {ss:List Int}{ks:List Nat}(h:ss.Perm (ks.map λ k:Nat=>(k:Int))):∃ms:List Nat,ss=ms.map (λ k:Nat=>(k:Int))/\ms.Perm ks:=by
 exists ss.map Jf,?_
 ·rw[IU];have:∀x∈ss,((λ k:Nat=>(k:Int)) ∘ Jf) x=x:=λ x hx=>by
   obtain⟨k,_,rfl⟩:=HE.mp (h.mem_iff.mp hx);show ((Jf (k:Int):Nat):Int)=k;omega
  rw[JM this,List.map_id']
 ·have:=h.map Jf;rw[IU] at this;have e:ks.map (Jf ∘ λ k:Nat=>(k:Int))=ks:=by
   rw[JM (g:=id) (λ x _=>by show Jf (x:Int)=x;omega),List.map_id]
  rw[e] at this;exact this
abbrev Cp:=Nat×(Str->Sx)
def T0:Str->Sx:=λ _=>cF
def FD (T:Str->Sx)(d:PyData):Prop:=∃ss:List Str,jE ss/\(∀x,x∈ss↔T x≠cF)/\d=fX T ss
theorem FV.fd {H:Hp}{v:V}{T:Str->Sx}(h:FV H v T):∃d,FD T d/\bg H v d:=by
 obtain⟨p,xs,ss,rfl,hp,srt,hm,r⟩:=h;exact⟨_,⟨ss,srt,hm,rfl⟩,.tup hp r⟩
theorem FD.fv {H:Hp}{v:V}{T:Str->Sx}{d:PyData}(h:FD T d)(r:bg H v d):FV H v T:=by
 obtain⟨ss,srt,hm,rfl⟩:=h;obtain⟨p,xs,rfl,hp,r⟩:=bg.bQ r;exact⟨p,xs,ss,rfl,hp,srt,hm,r⟩
theorem FD.unique {T:Str->Sx}{d d':PyData}(h:FD T d)(h':FD T d'):d=d':=by
 obtain⟨ss,srt,hm,rfl⟩:=h;obtain⟨ss',srt',hm',rfl⟩:=h';rw[srt.unique srt' λ x=>by rw[hm,hm']]
theorem Ah {a b:Option Int}(h:dO a=dO b):a=b:=by
 cases a with
 | none=>cases b with
  | none=>rfl
  | some _=>cases h
 | some i=>cases b with
  | none=>cases h
  | some j=>injection h with h;rw[h]
theorem Fd {a b:Sx}(h:dS a=dS b):a=b:=by
 obtain⟨a1,a2⟩:=a;obtain⟨b1,b2⟩:=b;have h1:[dO a1,dO a2]=[dO b1,dO b2]:=by injection h
 injection h1 with h1 h2
 injection h2 with h2 _
 rw[Ah h1,Ah h2]
theorem xt {T T':Str->Sx}:∀{ss ss':List Str},ss.map (dF T)=ss'.map (dF T')->ss=ss'/\∀x∈ss,T x=T' x
 | [],[],_=>⟨rfl,λ _ h=>nomatch h⟩
 | [],_::_,h=>by cases h
 | _::_,[],h=>by cases h
 | x::ss,y::ss',h=>by
  rw[HN,HN] at h;injection h with h1 h2
  have h3:[PyData.str x,dS (T x)]=[PyData.str y,dS (T' y)]:=by injection h1
  injection h3 with h4 h5
  injection h5 with h5 _
  have exy:x=y:=by injection h4
  subst exy;obtain⟨e,hr⟩:=xt h2;refine⟨by rw[e],λ z hz=>?_⟩
  rcases Ho.mp hz with rfl | hz
  ·exact Fd h5
  ·exact hr z hz
theorem FD.inj {T T':Str->Sx}{d:PyData}(h:FD T d)(h':FD T' d):T=T':=by
 obtain⟨ss,srt,hm,rfl⟩:=h;obtain⟨ss',srt',hm',e⟩:=h';have e':ss.map (dF T)=ss'.map (dF T'):=by injection e
 obtain⟨rfl,hx⟩:=xt e'
 funext x
 by_cases h:x∈ss
 ·exact hx x h
 ·have h1:T x=cF:=Classical.byContradiction λ z=>h ((hm x).mpr z)
  have h2:T' x=cF:=Classical.byContradiction λ z=>h ((hm' x).mpr z)
  rw[h1,h2]
theorem FD.zero:FD T0 (.tuple []):=⟨[],⟨IF.nil,Jd⟩,λ x=>⟨λ h=>(nomatch h),λ h=>absurd rfl h⟩,rfl⟩
def CD (c:Cp)(d:PyData):Prop:=∃fd,FD c.2 fd/\d=.tuple [.int (c.1:Nat),fd]
theorem CD.iff {c c':Cp}{d d':PyData}(h:CD c d)(h':CD c' d'):d=d'↔c=c':=by
 obtain⟨fd,hf,rfl⟩:=h;obtain⟨fd',hf',rfl⟩:=h'
 constructor
 ·intro e;have e1:[PyData.int (c.1:Nat),fd]=[PyData.int (c'.1:Nat),fd']:=by injection e
  injection e1 with e2 e3
  injection e3 with e3 _
  have e4:(c.1:Int)=(c'.1:Int):=by injection e2
  subst e3;exact Prod.ext ⋯ (hf.inj hf')
 ·rintro rfl;rw[hf.unique hf']
noncomputable instance Ga:DecidableEq Cp:=λ a b=>Classical.propDecidable (a=b)
theorem CD.mem {c:Cp}{d:PyData}(h:CD c d):∀{ds:List PyData} {cs:List Cp},Paired (λ d c=>CD c d) ds cs->(d∈ds↔c∈cs)/\ds.idxOf d=cs.idxOf c
 | _,_,.nil=>⟨by simp,rfl⟩
 | _,_,.cons (a:=d') (b:=c') (l₁:=ds) (l₂:=cs) h' t=>by
  obtain⟨i1,i2⟩:=CD.mem h t;have e:=h'.iff h
  constructor
  ·rw[Ho,Ho,i1]
   constructor
   ·rintro (z | z)
    ·exact .inl (e.mp z.symm).symm
    ·exact .inr z
   ·rintro (z | z)
    ·exact .inl (e.mpr z.symm).symm
    ·exact .inr z
  ·rw[List.idxOf_cons,List.idxOf_cons];by_cases z:d' = d
   ·have z':=e.mp z;rw[z,z',beq_self_eq_true,beq_self_eq_true];rfl
   ·have z':¬c' = c:=λ w=>z (e.mpr w)
    rw[beq_false_of_ne z,beq_false_of_ne z',i2]
theorem qx {T:Str->Sx}:∀ss:List Str,fb (fX T ss)=true
 | []=>rfl
 | x::ss=>by
  have ih:dt (ss.map (dF T))=true:=qx ss;show ((true&&(fb (dS (T x))&&true))&&dt (ss.map (dF T)))=true;rw[ih];obtain⟨a,b⟩:=T x;cases a<;>cases b<;>rfl
theorem CD.key {c:Cp}{d:PyData}(h:CD c d)(hl:vv c.2):gK d:=by
 obtain⟨fd,⟨ss,srt,hm,rfl⟩,rfl⟩:=h;refine⟨?_,?_,?_,_,rfl⟩
 ·show (true&&(fb (fX c.2 ss)&&true))=true;rw[qx];rfl
 ·show (true&&((fX c.2 ss).canLay0&&true))=true;rw[Ac hl ss λ x hx=>(hm x).mp hx];rfl
 ·show max 0 (max (fX c.2 ss).depth 0)+1<=7;have:=Fb c.2 ss;omega
section
variable (tops:Nat->Prop)(most:Nat)
open Classical in
noncomputable def bS (cs:List Cp) (c:Cp):Cp:=if tops c.1 then (c.1,T0) else if c∈cs\/cs.length<most then c else (c.1,T0)
noncomputable def fI (st:List Cp×List Nat) (l:Cp):List Cp×List Nat:=(LS.putIn st.1 (bS tops most st.1 l),st.2++[(LS.putIn st.1 (bS tops most st.1 l)).idxOf (bS tops most st.1 l)])
noncomputable def cE (cs:List Cp) (ls:List Cp):List Cp×List Nat:=ls.foldl (fI tops most) (cs,[])
theorem wg {cs ls:List Cp}{i:Nat}{l:Cp}(h:ls[i]?=some l):cE tops most cs (ls.take (i+1))=fI tops most (cE tops most cs (ls.take i)) l:=by
 unfold cE;rw[HM,h,JQ];rfl
def j5 (e:End):List Nat->End
 | [a]=>.go a
 | ns=>BH e ns
noncomputable def gu (ps:List Piece):Nat->List Cp->List Piece->List Cp×List Piece
 | 0,cs,outs=>(cs,outs)
 | f+1,cs,outs=>match cs[outs.length]? with
  | none=>(cs,outs)
  | some c=>match ps[c.1]? with
   | none=>(cs,outs)
   | some pc=>gu ps f (cE tops most cs (cQ (aW c.2 pc.1) pc.2)).1 (outs++[(pc.1,j5 pc.2 (cE tops most cs (cQ (aW c.2 pc.1) pc.2)).2)])
end
theorem tj {T:Str->Sx}:∀ss:List Str,cP (fX T ss)=true
 | []=>rfl
 | x::ss=>by
  have ih:cT (ss.map (dF T))=true:=tj ss;show ((true&&(cP (dS (T x))&&true))&&cT (ss.map (dF T)))=true;rw[ih];obtain⟨a,b⟩:=T x;cases a<;>cases b<;>rfl
theorem CD.kL {c:Cp}{d:PyData}(h:CD c d):cP d=true:=by
 obtain⟨fd,⟨ss,srt,hm,rfl⟩,rfl⟩:=h;show (true&&(cP (fX c.2 ss)&&true))=true;rw[tj];rfl
inductive xu  (vs:List V) (H:Hp) (Q:VK) (_:XK):Prop
 | mk (ea l:Addr) (e:End) (ns:List Nat) (_:vs=[.ref ea,.ref l]) (_:H ea=some (.tup (bR e))) (_:H l=some (.lst (vN ns))) (_:(ns.length=1\/ns.length=(aU e).length)) (_:ns.length<=2) (_:∀t H',H' t=some (.tup (bR (j5 e ns)))->ah H H'->Q (.ref t) H')
abbrev oB (ms:List (PyData×Addr))(cs:List Cp):Prop:=Paired (λ d c=>CD c d) (ms.map (·.1)) cs
inductive tm (P:Program) (w:World) (vs:List V) (H:Hp) (Q:VK) (_:XK):Prop
 | mk (la tp d:Addr) (most k:Nat) (T:Str->Sx) (dl:PyData) (hs:List Nat) (fv:V) (ms:List (PyData×Addr)) (cs:List Cp) (tops:Nat->Prop) (_:vs=[.ref la,.ref tp,.ref d,.int (most:Nat)]) (_:H la=some (.tup [.int (k:Nat),fv])) (_:bg H (.ref la) dl) (_:CD (k,T) dl) (_:vv T) (_:H tp=some (.tup (vN hs))) (_:(∀j,j∈hs↔tops j)) (_:H d=some (fG P w d (dH 0 ms))) (_:CU H (dH 0 ms)) (_:oB ms cs) (_:∀(a:Addr) (d':PyData) (H':Hp),bg H' (.ref a) d'->CD (bS tops most cs (k,T)) d'->ah H H'->Q (.ref a) H')
structure cn (xs:List Str) (T:Str->Sx):Prop where
 sup:∀x,T x≠cF->x∈xs
 le:∀x,iR (T x).1 (T x).2
theorem cn.zero {xs:List Str}:cn xs T0:=⟨λ x h=>absurd rfl h,λ x=>True.intro⟩
theorem cn.set {xs:List Str}{T:Str->Sx}(h:cn xs T){x:Str}{s:Sx}(hx:x∈xs)(hs:iR s.1 s.2):cn xs (b8 T x s):=by
 refine⟨λ y hy=>?_,λ y=>?_⟩
 ·unfold b8 at hy;by_cases e:y=x
  ·rw[e];exact hx
  ·rw[if_neg e] at hy;exact h.sup y hy
 ·unfold b8;by_cases e:y=x
  ·rw[if_pos e];exact hs
  ·rw[if_neg e];exact h.le y
theorem DP {w:Str}{lo hi:Option Int}{n:Int}{side:Bool}{s:Sx}(le:iR lo hi)(h:dX w lo hi n side=some s):iR s.1 s.2:=by
 unfold dX at h;split at h
 ·unfold lj at h;split at h
  ·unfold gG at h;cases lo with
   | none=>cases h;exact True.intro
   | some l =>
    dsimp only at h;split at h
    ·cases h
    ·cases h;show l<=iY hi n;omega
  ·unfold iL at h;cases hi with
   | none=>cases h;exact True.intro
   | some l =>
    dsimp only at h;split at h
    ·cases h
    ·cases h;show iZ lo n<=l;omega
 ·unfold uY at h;split at h
  ·unfold lX at h;split at h
   ·cases h;exact Int.le_refl n
   ·cases h
  ·unfold jA at h;split at h
   ·next h1 =>
    split at h
    ·cases h
    ·next h2 =>
     cases h;subst h1;cases hi with
     | none=>exact True.intro
     | some b =>
      have:n<=b:=le;have:¬b=n:=λ z=>h2 (by rw[z])
      show n+1<=b;omega
   ·next h1 =>
    split at h
    ·next h2 =>
     cases h;subst h2;cases lo with
     | none=>exact True.intro
     | some a =>
      have:a<=n:=le;have:¬a=n:=λ z=>h1 (by rw[z])
      show a<=n-1;omega
    ·cases h;exact le
theorem cn.Gb {xs:List Str}{T:Str->Sx}(h:cn xs T){d:cH}(hd:fz xs d):cn xs (yy T d):=by
 refine h.set hd.name ?_;cases d with
 | put x n=>exact Int.le_refl n
 | copy x y=>exact h.le y
 | add x n =>
  have:=h.le x;show iR (jF (T x).1 n) (jF (T x).2 n);cases e1:(T x).1 with
  | none=>exact True.intro
  | some a=>cases e2:(T x).2 with
   | none=>exact True.intro
   | some b =>
    rw[e1,e2] at this;have:a<=b:=this;show a+n<=b+n;omega
 | read x=>exact True.intro
 | tell x=>exact h.le x
theorem cn.pA {xs:List Str}:∀{ds:List cH} {T:Str->Sx},cn xs T->(∀d∈ds,fz xs d)->cn xs (aW T ds)
 | [],_,h,_=>h
 | d::ds,T,h,hd=>cn.pA (ds:=ds) (h.Gb (hd d (Hv ..))) λ e he=>hd e (Hx _ he)
theorem xw {xs:List Str}{c:Nat}{T:Str->Sx}{e:End}(h:cn xs T)(he:jU xs c e):∀p∈cQ T e,p.1<c/\cn xs p.2:=λ p hp=>by
 unfold cQ at hp;obtain⟨⟨k,o⟩,ho,hm⟩:=IS.mp hp;have hz:=JD ho;cases e with
 | stop=>cases hz.1
 | go q =>
  rw[Hm.mp hz.2] at hm;cases hm;exact⟨by rw[Hm.mp hz.1];exact he,h⟩
 | aR b x n q r =>
  have hk:k<c:=by
   rcases Ho.mp hz.1 with z | z
   ·rw[z];exact he.2.2.1
   ·rw[Hm.mp z];exact he.2.2.2
  have key:∀side,o=(cW T b x n side).map (b8 T x)->p.1<c/\cn xs p.2:=λ side eo=>by
   dsimp only at hm;rw[eo] at hm;cases z:cW T b x n side with
   | none=>rw[z] at hm;cases hm
   | some s =>
    rw[z] at hm;cases hm;exact⟨hk,h.set he.1 (DP (h.le x) z)⟩
  rcases Ho.mp hz.2 with z | z
  ·exact key true z
  ·exact key false (Hm.mp z)
theorem vA {xs:List Str}{T:Str->Sx}{e:End}(h:cn xs T):((cQ T e).length=1\/(cQ T e).length=(aU e).length)/\(cQ T e).length<=2:=by
 cases e with
 | stop=>exact⟨.inr rfl,HL _⟩
 | go q=>exact⟨.inl rfl,by show 1<=2;decide⟩
 | aR b x n q r =>
  have e:cQ T (.aR b x n q r)=((cW T b x n true).map λ s=>(q,b8 T x s)).toList++((cW T b x n false).map λ s=>(r,b8 T x s)).toList:=by
   unfold cQ;show ([(q,(cW T b x n true).map (b8 T x)),(r,(cW T b x n false).map (b8 T x))].filterMap λ p=>p.2.map λ U=>(p.1,U))=_;cases cW T b x n true<;>cases cW T b x n false<;>rfl
  rw[e];cases e1:cW T b x n true with
  | none=>cases e2:cW T b x n false with
   | none=>exact (Bj (h.le x) e1 e2).elim
   | some s=>exact⟨.inl rfl,by show 1<=2;decide⟩
  | some s=>cases e2:cW T b x n false with
   | none=>exact⟨.inl rfl,by show 1<=2;decide⟩
   | some s=>exact⟨.inr rfl,Hn 2⟩
theorem cn.lay {xs:List Str}{T:Str->Sx}(h:cn xs T)(hx:∀x∈xs,dM x):vv T:=λ x hx'=>BM (hx x (h.sup x hx'))
theorem cn.bV {xs:List Str}{T:Str->Sx}(h:cn xs T):gM T xs.length:=λ ss hs nd=>sub_len nd λ x hx=>h.sup x (hs x hx)
open Classical in
noncomputable def m6 (c:Cp):Bool:=decide (c.2≠T0)
theorem tw {α : Type}(p:α->Bool):∀l:List α,l.length=(l.filter p).length+(l.filter λ x=>!p x).length
 | []=>rfl
 | x::l=>by
  have ih:=tw p l;cases h:p x with
  | true=>rw[JT h,Jv (by simp[h]),HX,HX];omega
  | false=>rw[Jv (by simp[h]),JT (by simp[h]),HX,HX];omega
structure jI (n most:Nat) (cs:List Cp):Prop where
 nd:cs.Nodup
 bV:(cs.filter m6).length<=most
theorem jI.len {n most:Nat}{cs:List Cp}(h:jI n most cs)(hl:∀c∈cs,c.1<n):cs.length<=most+n:=by
 have e:=tw m6 cs;have h2:(cs.filter λ c=>!m6 c).length<=n:=by
  have nd2:((cs.filter λ c=>!m6 c).map (·.1)).Nodup:=by
   rw[List.Nodup,List.pairwise_map];refine (h.nd.filter _).imp_of_mem λ {a b} ha hb hne z=>hne ?_
   have ha2:=(Iu.mp ha).2;have hb2:=(Iu.mp hb).2;simp[m6] at ha2 hb2;exact Prod.ext z (by rw[ha2,hb2])
  have:=gZ (n:=n) nd2 λ x hx=>by
   obtain⟨c,hc,rfl⟩:=HE.mp hx;exact hl c (Iu.mp hc).1
  rw[Hk] at this;exact this
 have:=h.bV;omega
theorem jI.put {n most:Nat}{tops:Nat->Prop}{cs:List Cp}{l:Cp}(h:jI n most cs):jI n most (LS.putIn cs (bS tops most cs l)):=by
 unfold LS.putIn;by_cases hm:bS tops most cs l∈cs
 ·rw[if_pos hm];exact h
 ·rw[if_neg hm];exists ?_
  ·rw[IV];refine⟨h.nd,by simp,λ x hx y hy z=>?_⟩;rw[Hm.mp hy] at z;exact hm (z ▸ hx)
  ·rw[JN,Ht];by_cases hz:(bS tops most cs l).2=T0
   ·rw[Jv (by simp[m6,hz])];simpa using h.bV
   ·have hlt:cs.length<most:=by
     unfold bS at hz hm;split at hz
     ·exact absurd rfl hz
     ·split at hz
      ·next h1 h2 =>
       rw[if_neg h1,if_pos h2] at hm;exact h2.resolve_left hm
      ·exact absurd rfl hz
    have h3:(cs.filter m6).length<=cs.length:=II _ _;have h4:(List.filter m6 [bS tops most cs l]).length<=1:=II _ _;omega
open Classical in
noncomputable def startT (ps:List Piece):Str->Sx:=λ x=>if x∈b6 ps then (some 0,some 0) else cF
open Classical in
noncomputable def ip (ps:List Piece):Cp:=if dh ps 0 then (0,T0) else (0,startT ps)
noncomputable def eV (ps:List Piece) (most:Nat):List Cp×List Piece:=gu (dh ps) most ps (most+ps.length) [ip ps] []
theorem BQ {ps:List Piece}{ss:List Str}(hp:ss.Perm (LS.eG (b6 ps)))(hs:sortedS ss=true):FD (startT ps) (mY ss):=by
 have hm:∀x,x∈ss↔x∈b6 ps:=λ x=>hp.mem_iff.trans LS.sO
 exists ss,⟨mQ hs,hp.nodup_iff.mpr (LS.vi _)⟩,λ x=>?_
 ·rw[hm];unfold startT;by_cases h:x∈b6 ps
  ·rw[if_pos h];exact⟨λ _ z=>(by cases z),λ _=>h⟩
  ·rw[if_neg h];exact⟨λ z=>absurd z h,λ z=>absurd rfl z⟩
 ·unfold mY fX
  congr 1
  refine JM λ x hx=>?_
  unfold dF startT;rw[if_pos ((hm x).mp hx)];rfl
theorem pB {ps:List Piece}{xs:List Str}{m:Nat}(ok:cI xs m ps):cn xs (startT ps):=by
 refine⟨λ x hx=>?_,λ x=>?_⟩
 ·unfold startT at hx;by_cases h:x∈b6 ps
  ·exact sP ok x h
  ·rw[if_neg h] at hx;exact absurd rfl hx
 ·unfold startT;split
  ·exact Int.le_refl 0
  ·exact True.intro
theorem qy {tops:Nat->Prop}{most:Nat}{ps:List Piece}{f:Nat}{cs:List Cp}{outs:List Piece}{c:Cp}{pc:Piece}(h:cs[outs.length]?=some c)(hp:ps[c.1]?=some pc) :
  gu tops most ps (f+1) cs outs=gu tops most ps f (cE tops most cs (cQ (aW c.2 pc.1) pc.2)).1 (outs++[(pc.1,j5 pc.2 (cE tops most cs (cQ (aW c.2 pc.1) pc.2)).2)]):=by
 conv=>lhs;unfold gu
 rw[h];dsimp only;rw[hp]
theorem tD {tops:Nat->Prop}{most:Nat}{ps:List Piece}{cs:List Cp}{outs:List Piece}(h:cs[outs.length]?=none):∀f,gu tops most ps f cs outs=(cs,outs)
 | 0=>rfl
 | f+1=>by
  conv=>lhs;unfold gu
  rw[h]
inductive tE (P:Program) (w:World) (C:Addr) (vs:List V) (H:Hp) (Q:VK) (_:XK):Prop
 | mk (plv:V) (ps:List Piece) (xs:List Str) (most:Nat) (_:vs=[plv,.int (most:Nat)]) (_:bg H plv (eF ps)) (_:cI xs 6 ps) (_:(∀x∈xs,dM x)) (_:xs.length<=10) (_:0<ps.length) (_:ps.length<=60) (_:1<=most) (_:most<=300) (_:∀(v:V) (ds:List PyData) (H':Hp),Paired (λ d c=>CD c d) ds (eV ps most).1->bg H' v (.tuple [.tuple ((eV ps most).2.map eN),.tuple ds])->ah H H'->Q v H')
theorem DQ {X:Cx}{K:Hl}{e:Expr}{f:Str}{pos:Pos}{ta:TE}(hK:X.K=K)(he:PE X e ta)(hb:attributeBase e f X.env (eval e X.env)=eval e X.env):PE X (.Attribute e f pos) (En K ta f):=by
 subst hK;exact hV he hb
theorem iV {tops:Nat->Prop}{most n:Nat}{xs:List Str}:∀{ls cs:List Cp} {ns:List Nat},jI n most cs->(∀c∈cs,c.1<n/\cn xs c.2)->(∀c∈ls,c.1<n/\cn xs c.2)->jI n most (ls.foldl (fI tops most) (cs,ns)).1/\(∀c∈(ls.foldl (fI tops most) (cs,ns)).1,c.1<n/\cn xs c.2)/\(ls.foldl (fI tops most) (cs,ns)).2.length=ns.length+ls.length/\∃more,(ls.foldl (fI tops most) (cs,ns)).1=cs++more
 | [],cs,ns,h,hc,_=>⟨h,hc,rfl,[],by simp⟩
 | l::ls,cs,ns,h,hc,hl=>by
  have hl0:=hl l (Hv ..);have hcp:(bS tops most cs l).1<n/\cn xs (bS tops most cs l).2:=by
   unfold bS;split
   ·exact⟨hl0.1,cn.zero⟩
   ·split
    ·exact hl0
    ·exact⟨hl0.1,cn.zero⟩
  have hc':∀c∈LS.putIn cs (bS tops most cs l),c.1<n/\cn xs c.2:=λ c hc'=>by
   rcases LS.iT.mp hc' with z | z
   ·exact hc c z
   ·rw[z];exact hcp
  obtain⟨i1,i2,i3,more,i4⟩:=iV (tops:=tops) (ls:=ls) (cs:=LS.putIn cs (bS tops most cs l)) (ns:=ns++[(LS.putIn cs (bS tops most cs l)).idxOf (bS tops most cs l)]) (h.put (l:=l)) hc' λ c hc=>hl c (Hx _ hc)
  exists i1,i2,?_
  ·refine Eq.trans (show (ls.foldl (fI tops most) (fI tops most (cs,ns) l)).2.length=(ns++[(LS.putIn cs (bS tops most cs l)).idxOf (bS tops most cs l)]).length+ls.length from i3) ?_;simp only[Ht,HX,JJ];omega
  ·have i4':(ls.foldl (fI tops most) (fI tops most (cs,ns) l)).1=LS.putIn cs (bS tops most cs l)++more:=i4;show ∃more,(ls.foldl (fI tops most) (fI tops most (cs,ns) l)).1=cs++more;rw[i4'];unfold LS.putIn;split
   ·exact⟨more,rfl⟩
   ·exact⟨bS tops most cs l::more,by simp⟩
theorem ib.mv {P:Program}{w:World}{C r m d:Addr}{H H':Hp}{ms:List (PyData×Addr)}(A:ib P w C H r m d ms)(nls:∀p∈ms,cP p.1=true)(k:∀c o,H c=some o->(c=r\/c=m\/c=d)->H' c=some o)(kt:∀p zs,H p=some (.tup zs)->H' p=some (.tup zs)):ib P w C H' r m d ms:=by
 obtain⟨⟨dx,h1⟩,h2,h3,h4⟩:=A;exact⟨⟨dx,k _ _ h1 (.inl rfl)⟩,k _ _ h2 (.inr (.inl rfl)),k _ _ h3 (.inr (.inr rfl)),λ p hp=>⟨(h4 p hp).1,(h4 p hp).2.aM kt (nls p hp)⟩⟩
theorem oB.kL {ms:List (PyData×Addr)}{cs:List Cp}(h:oB ms cs):∀p∈ms,cP p.1=true:=by
 have go:∀{ds:List PyData} {cs:List Cp},Paired (λ d c=>CD c d) ds cs->∀d∈ds,cP d=true:=by
  intro ds cs h
  induction h with
  | nil=>intro d hd;cases hd
  | cons r _ ih =>
   intro d hd
   rcases Ho.mp hd with rfl | hd
   ·exact r.kL
   ·exact ih d hd
 exact λ p hp=>go h p.1 (HE.mpr ⟨p,hp,rfl⟩)
theorem oB.put {ms:List (PyData×Addr)}{cs:List Cp}{c:Cp}{d:PyData}{a:Addr}(h:oB ms cs)(cd:CD c d):oB (lF ms d a) (LS.putIn cs c):=by
 obtain⟨hm,_⟩:=cd.mem h;unfold lF LS.putIn;by_cases z:c∈cs
 ·rw[if_pos z,if_pos (hm.mpr z)];exact h
 ·rw[if_neg z,if_neg (λ w=>z (hm.mp w))];show Paired _ ((ms++[(d,a)]).map (·.1)) _;rw[HA];exact dY h (.cons cd .nil)
theorem xx {H:Hp}:∀{ms:List (PyData×Addr)},(∀p∈ms,bg H (.ref p.2) p.1)->bp H (ms.map λ p=>V.ref p.2) (ms.map (·.1))
 | [],_=>.nil
 | p::ms,h=>.cons (h p (Hv ..)) (xx λ q hq=>h q (Hx _ hq))
section
variable {prog:Program}{w:World}{A:Around}{E:AT}{s:Shared}
end
section
variable {X:Cx}
end
open Classical in
noncomputable def pC (T:Str->Sx) (ss:List Str):Str->Sx:=λ x=>if x∈ss then T x else cF
theorem BR {T:Str->Sx}{ss:List Str}{x:Str}:b8 (pC T ss) x (T x)=pC T (ss++[x]):=by
 funext y
 unfold b8 pC;by_cases e:y=x
 ·rw[if_pos e,if_pos (by rw[e];exact HS _ (Hm.mpr rfl)),e]
 ·rw[if_neg e];by_cases h:y∈ss
  ·rw[if_pos h,if_pos (Ig _ h)]
  ·rw[if_neg h,if_neg (λ z=>(HI.mp z).elim h λ w=>e (Hm.mp w))]
theorem BS {T:Str->Sx}{ss:List Str}(h:∀x,x∈ss↔T x≠cF):pC T ss=T:=by
 funext x
 unfold pC;by_cases z:x∈ss
 ·rw[if_pos z]
 ·rw[if_neg z];exact (Classical.byContradiction λ w=>z ((h x).mpr λ e=>w e.symm))
theorem vC {H:Hp}{v:V}{o:Option Int}(h:bg H v (dO o)):v=vO o:=by
 cases o with
 | none=>cases h;rfl
 | some i=>cases h;rfl
theorem vD {H:Hp}{v:V}{s:Sx}(h:bg H v (dS s)):SH H v s:=by
 obtain⟨p,zs,rfl,hp,r⟩:=bg.bQ h;obtain⟨y1,t1,rfl,q1,r⟩:=r.cons_inv;obtain⟨y2,t2,rfl,q2,r⟩:=r.cons_inv;have z:=r.nil_inv;subst z;rw[vC q1,vC q2] at hp;exact⟨p,rfl,hp⟩
section
variable {tops:Nat->Prop}{most:Nat}
def Goes (tops:Nat->Prop)(most:Nat)(cs:List Cp)(ls:List Cp)(ns:List Nat):Prop:=Paired (λ l k=>∃c':Cp,cs[k]?=some c'/\c'.1=l.1/\((¬tops l.1/\c'.2=l.2)\/(c'.2=T0/\(tops l.1\/most<=cs.length)))) ls ns
theorem Goes.more {cs ls more:List Cp}{ns:List Nat}(h:Goes tops most cs ls ns):Goes tops most (cs++more) ls ns:=by
 unfold Goes at h ⊢
 induction h with
 | nil=>exact .nil
 | cons r _ ih =>
  obtain⟨c',h1,h2,h3⟩:=r;refine .cons ⟨c',?_,h2,?_⟩ ih
  ·rw[IL (HD.mp h1).1];exact h1
  ·rcases h3 with h3 | ⟨h3,h4 | h4⟩
   ·exact .inl h3
   ·exact .inr ⟨h3,.inl h4⟩
   ·exact .inr ⟨h3,.inr (by rw[Ht];omega)⟩
theorem BU {cs:List Cp}{c:Cp}:(LS.putIn cs c)[(LS.putIn cs c).idxOf c]?=some c:=by
 have hm:c∈LS.putIn cs c:=LS.iT.mpr (.inr rfl);have hl:=List.idxOf_lt_length_of_mem hm;rw[J3 hl,List.getElem_idxOf hl]
theorem oC:∀{ls cs:List Cp} {ns:List Nat},∃more ms,(ls.foldl (fI tops most) (cs,ns)).1=cs++more/\(ls.foldl (fI tops most) (cs,ns)).2=ns++ms/\Goes tops most (ls.foldl (fI tops most) (cs,ns)).1 ls ms
 | [],cs,ns=>⟨[],[],by simp,by simp,.nil⟩
 | l::ls,cs,ns=>by
  obtain⟨more,ms,e1,e2,g⟩:=oC (ls:=ls) (cs:=LS.putIn cs (bS tops most cs l)) (ns:=ns++[(LS.putIn cs (bS tops most cs l)).idxOf (bS tops most cs l)]);have e0:(l::ls).foldl (fI tops most) (cs,ns)=ls.foldl (fI tops most) (LS.putIn cs (bS tops most cs l),ns++[(LS.putIn cs (bS tops most cs l)).idxOf (bS tops most cs l)]):=rfl;rw[e0];have hp:∃m0,LS.putIn cs (bS tops most cs l)=cs++m0:=by
   unfold LS.putIn;split
   ·exact⟨[],by simp⟩
   ·exact⟨_,rfl⟩
  obtain⟨m0,em⟩:=hp;have hat:=BU (cs:=cs) (c:=bS tops most cs l);refine⟨m0++more,(LS.putIn cs (bS tops most cs l)).idxOf (bS tops most cs l)::ms,by rw[e1,em,Iq],by rw[e2,Iq];rfl,.cons ⟨bS tops most cs l,?_,?_,?_⟩ g⟩
  ·rw[e1,IL (HD.mp hat).1];exact hat
  ·unfold bS;split
   ·rfl
   ·split<;>rfl
  ·have hl:cs.length<=(ls.foldl (fI tops most) (LS.putIn cs (bS tops most cs l),ns++[(LS.putIn cs (bS tops most cs l)).idxOf (bS tops most cs l)])).1.length:=by rw[e1,em,Ht,Ht];omega
   generalize (ls.foldl (fI tops most) (LS.putIn cs (bS tops most cs l),ns++[(LS.putIn cs (bS tops most cs l)).idxOf (bS tops most cs l)])).1=cz at hl;unfold bS;by_cases h1:tops l.1
   ·rw[if_pos h1];exact .inr ⟨rfl,.inl h1⟩
   ·rw[if_neg h1];by_cases h2:l∈cs\/cs.length<most
    ·rw[if_pos h2];exact .inl ⟨h1,rfl⟩
    ·rw[if_neg h2];exact .inr ⟨rfl,.inr (by have:¬cs.length<most:=λ z=>h2 (.inr z);omega)⟩
def GV (tops:Nat->Prop)(most:Nat)(ps:List Piece)(cs:List Cp)(outs:List Piece):Prop:=∀(j:Nat) (p:Piece),outs[j]?=some p->∃(c:Cp) (pc:Piece) (ns:List Nat),cs[j]?=some c/\ps[c.1]?=some pc/\p=(pc.1,j5 pc.2 ns)/\Goes tops most cs (cQ (aW c.2 pc.1) pc.2) ns
structure rL (tops:Nat->Prop) (most:Nat) (xs:List Str) (ps:List Piece) (cs:List Cp) (outs:List Piece):Prop where
 ic:jI ps.length most cs
 ok:∀c∈cs,c.1<ps.length/\cn xs c.2
 le:outs.length<=cs.length
 rel:GV tops most ps cs outs
theorem rL.step {xs:List Str}{ps:List Piece}{cs:List Cp}{outs:List Piece}{m:Nat}(h:rL tops most xs ps cs outs)(pok:cI xs m ps){c:Cp}{pc:Piece}(hc:cs[outs.length]?=some c)(hp:ps[c.1]?=some pc) :
  rL tops most xs ps (cE tops most cs (cQ (aW c.2 pc.1) pc.2)).1 (outs++[(pc.1,j5 pc.2 (cE tops most cs (cQ (aW c.2 pc.1) pc.2)).2)])/\∃more,(cE tops most cs (cQ (aW c.2 pc.1) pc.2)).1=cs++more:=by
 have hcm:=Hy hc;have dok:=pok.eX _ (Hy hp);have eok:=pok.ends _ (Hy hp);have bok:=(h.ok c hcm).2.pA dok.2;obtain⟨k1,k2,_,_⟩:=iV (tops:=tops) (ls:=cQ (aW c.2 pc.1) pc.2) (ns:=[]) h.ic h.ok (xw bok eok);obtain⟨more,ms,e1,e2,g⟩:=oC (tops:=tops) (most:=most) (ls:=cQ (aW c.2 pc.1) pc.2) (cs:=cs) (ns:=[]);have hol:outs.length<cs.length:=(HD.mp hc).1;refine⟨⟨k1,k2,?_,?_⟩,more,e1⟩
 ·unfold cE;rw[e1,Ht,Ht];show _+1<=_;omega
 ·intro j p hj;unfold cE;by_cases hjl:j<outs.length
  ·rw[IL hjl] at hj;obtain⟨c',pc',ns',h1,h2,h3,h4⟩:=h.rel j p hj;exists c',pc',ns',?_,h2,h3
   ·rw[e1,IL ⋯];exact h1
   ·rw[e1];exact h4.more
  ·have hje:j=outs.length:=by
    have:=(HD.mp hj).1;rw[Ht] at this;have:j<outs.length+1:=this;omega
   subst hje;rw[Jk (Hn _),Nat.sub_self] at hj;cases hj;refine⟨c,pc,ms,?_,hp,?_,g⟩
   ·rw[e1,IL hol];exact hc
   ·unfold cE;rw[e2];rfl
theorem tF {xs:List Str}{ps:List Piece}{m:Nat}(pok:cI xs m ps):∀(fu:Nat) {cs:List Cp} {outs:List Piece},rL tops most xs ps cs outs->fu+outs.length=most+ps.length ->
  rL tops most xs ps (gu tops most ps fu cs outs).1 (gu tops most ps fu cs outs).2/\(gu tops most ps fu cs outs).2.length=(gu tops most ps fu cs outs).1.length/\∃more,(gu tops most ps fu cs outs).1=cs++more
 | 0,cs,outs,h,hf=>by
  have:=h.ic.len λ c hc=>(h.ok c hc).1
  have:=h.le;exact⟨h,by show outs.length=cs.length;omega,[],by show cs=_;simp⟩
 | fu+1,cs,outs,h,hf=>by
  cases hc:cs[outs.length]? with
  | none =>
   rw[tD hc];have:cs.length<=outs.length:=List.getElem?_eq_none_iff.mp hc;have:=h.le;exact⟨h,by show outs.length=cs.length;omega,[],by simp⟩
  | some c =>
   have hcl:=(h.ok c (Hy hc)).1;have hps:ps[c.1]?=some ps[c.1]:=by simp[hcl]
   rw[qy hc hps];obtain⟨h',more,e⟩:=h.step pok hc hps;obtain⟨i1,i2,more',i3⟩:=tF pok fu h' (by rw[Ht];show fu+(_+1)=_;omega);exact⟨i1,i2,more++more',by rw[i3,e,Iq]⟩
end
theorem jJ {xs:List Str}{ps:List Piece}{m most:Nat}(pok:cI xs m ps)(hn0:0<ps.length)(hm:1<=most) :
  rL (dh ps) most xs ps (eV ps most).1 (eV ps most).2/\(eV ps most).2.length=(eV ps most).1.length/\∃more,(eV ps most).1=[ip ps]++more:=by
 refine tF pok _ ⟨⟨by simp,Hu (II _ _) hm⟩,λ c hc=>?_,HL _,λ j p hj=>(by cases hj)⟩ rfl;rw[Hm.mp hc];unfold ip;split
 ·exact⟨hn0,cn.zero⟩
 ·exact⟨hn0,pB pok⟩
theorem DR {xs:List Str}{n n':Nat}{e:End}{ns:List Nat}(h:jU xs n e)(hl:ns.length=1\/ns.length=(aU e).length)(hb:∀k∈ns,k<n'):jU xs n' (j5 e ns):=by
 match ns,hl,hb with
 | [a],_,hb=>exact hb a (Hm.mpr rfl)
 | [],hl,_ =>
  cases e with
  | stop=>exact True.intro
  | go p=>exact absurd (hl.resolve_left ⋯) (by show ¬0=1;decide)
  | aR b x n p q=>exact absurd (hl.resolve_left ⋯) (by show ¬0=2;decide)
 | [a,c],hl,hb =>
  have hl:=hl.resolve_left (by show ¬2=1;decide);cases e with
  | stop=>exact absurd hl (by show ¬2=0;decide)
  | go p=>exact absurd hl (by show ¬2=1;decide)
  | aR b x n p q=>exact⟨h.1,h.2.1,hb a (by simp),hb c (by simp)⟩
 | _::_::_::_,hl,_ =>
  exfalso;have h3:(aU e).length<=2:=by cases e<;>(show _<=2)<;>simp[aU]
  simp only[HX] at hl;omega
theorem Goes.lt {tops:Nat->Prop}{most:Nat}{cs ls:List Cp}{ns:List Nat}(h:Goes tops most cs ls ns):∀k∈ns,k<cs.length:=by
 unfold Goes at h
 induction h with
 | nil=>intro k hk;cases hk
 | cons r _ ih =>
  intro k hk
  rcases Ho.mp hk with rfl | hk
  ·obtain⟨c',h1,_⟩:=r;exact (HD.mp h1).1
  ·exact ih k hk
theorem tG {xs:List Str}{ps:List Piece}{m most:Nat}(pok:cI xs m ps)(hn0:0<ps.length)(hm:1<=most):cI xs m (eV ps most).2:=by
 obtain⟨I,hl,_⟩:=jJ pok hn0 hm;have key:∀p∈(eV ps most).2,(p.1.length<=m/\∀d∈p.1,fz xs d)/\jU xs (eV ps most).2.length p.2:=λ p hp=>by
  obtain⟨j,hj⟩:=Jw hp;obtain⟨c,pc,ns,h1,h2,rfl,h4⟩:=I.rel j p hj;have hpm:=Hy h2;have bok:=(I.ok c (Hy h1)).2.pA (pok.eX _ hpm).2;refine⟨(show pc.1.length<=m/\∀d∈pc.1,fz xs d from pok.eX pc hpm),DR (pok.ends _ hpm) ?_ (by rw[hl];exact h4.lt)⟩;rw[<-Paired.length h4];exact (vA (e:=pc.2) bok).1
 exact⟨λ p hp=>(key p hp).1,λ p hp=>(key p hp).2⟩
theorem tH {xs:List Str}{ps:List Piece}{m most:Nat}(pok:cI xs m ps)(hn0:0<ps.length)(hm:1<=most):0<(eV ps most).2.length/\(eV ps most).2.length<=most+ps.length:=by
 obtain⟨I,hl,more,e⟩:=jJ pok hn0 hm;have h1:=I.ic.len λ c hc=>(I.ok c hc).1
 rw[hl];refine⟨?_,h1⟩;rw[e];exact Nat.succ_pos _
theorem cI.up {xs:List Str}{m k:Nat}{ps:List Piece}(h:cI xs m ps)(hk:m<=k):cI xs k ps:=⟨λ p hp=>⟨Hu (h.eX p hp).1 hk,(h.eX p hp).2⟩,h.ends⟩
section
variable {X:Cx}
end
theorem qA {w:Str->Int}:Sound T0 w:=λ x=>rfl
theorem BW {T:Str->Sx}{b:Bool}{x:Str}{n:Int}{q r:Nat}:cQ T (.aR b x n q r)=((cW T b x n true).map λ s=>(q,b8 T x s)).toList++((cW T b x n false).map λ s=>(r,b8 T x s)).toList:=by
 unfold cQ;show ([(q,(cW T b x n true).map (b8 T x)),(r,(cW T b x n false).map (b8 T x))].filterMap λ p=>p.2.map λ U=>(p.1,U))=_;cases cW T b x n true<;>cases cW T b x n false<;>rfl
section
variable {X:Cx}{pos:Pos}
end
section
variable {X:Cx}
end
section
variable {X:Cx}
end
theorem fJ {α β : Type}{F:α->β->Prop}:∀{l:List α} {m:List β},Paired F l m->∀{i:Nat} {y:β},m[i]?=some y->∃x,l[i]?=some x/\F x y
 | _,_,.nil,i,y,h=>by simp at h
 | _,_,.cons f t,0,y,h=>by cases h;exact⟨_,rfl,f⟩
 | _,_,.cons f t,i+1,y,h=>fJ t h
theorem dZ {α β : Type}{F:α->β->Prop}:∀{l:List α} {m:List β},Paired F l m->l.length=m.length
 | _,_,.nil=>rfl
 | _,_,.cons f t=>congrArg (· + 1) (dZ t)
theorem qB {α β : Type}{F:α->β->Prop}{x:α}{y:β}(f:F x y):∀{l:List α} {m:List β} (i:Nat),Paired F l m->Paired F (l.set i x) (m.set i y)
 | _,_,_,.nil=>.nil
 | _,_,0,.cons _ t=>.cons f t
 | _,_,i+1,.cons g t=>.cons g (qB f i t)
theorem jf {n i:Nat}(h:i<n):mE n (i:Int)=some i:=by
 unfold mE;simp;omega
section
variable {X:Cx}
inductive Fe  (x:V) (vs:List V) (H:Hp) (Q:VK):Prop
 | mk (l:Addr) (xs:List V) (z:Int) (k:Nat) (y:V) (_:x=.ref l) (_:vs=[.int z,y]) (_:z=(k:Int)) (_:H l=some (.lst xs)) (_:k<=xs.length) (_:xs.length<1000000) (_:Q .aZ (upd H l (.lst (xs.take k++y::xs.drop k))))
theorem BX:uL X "list.insert" Fe:=by
 intro pins s Hh H x vs v us Q I rx rv h;obtain⟨l,xs,zi,k,y,rfl,rfl,hzk,hH,hk,hz,q⟩:=h;cases rx;cases rv with
 | cons ru1 rv1 =>
  obtain⟨u2,rfl,ru2⟩:=vals1 rv1;obtain⟨t,rfl⟩:=ru1;obtain⟨z,its,n,r,hl,e⟩:=I.mF hH;have hfit:¬(!Builtin.List.listFitsIndex zi)=true:=by
   rw[fitsIndex_both ⋯ ⋯];exact HK
  have hsz:its.toArray.size<=sizeLine:=by rw[HF];omega
  have M:=AutoSeq1.list_insert_list_int_val_1 l its.toArray n zi t u2 hfit hsz;refine call_meets F.slot_list_insert ⟨_,e,rfl⟩ F.entry_list_insert (F.args_list_insert_3 _ _ _) M ⟨e,?_⟩;have ek:(if zi<0 then (zi+(its.toArray.size:Int)).toNat else min zi.toNat its.toArray.size)=k:=by
   rw[if_neg ⋯,HF];omega
  have ex:(its.toArray.extract 0 k).push u2++its.toArray.extract k=(its.take k++u2::its.drop k).toArray:=by
   apply Array.toList_inj.mp;simp;rw[Jr (by rw[IY];exact Hn _)]
  refine⟨.aZ,_,I.uM (its':=its.take k++u2::its.drop k) hH e ?_ ((r.take k).append (.cons ru2 (r.drop k))) ?_,rfl,q⟩
  ·show (its.toArray.extract 0 (if zi<0 then (zi+(its.toArray.size:Int)).toNat else min zi.toNat its.toArray.size)).push u2++its.toArray.extract (if zi<0 then (zi+(its.toArray.size:Int)).toNat else min zi.toNat its.toArray.size)=_;rw[ek,ex]
  ·rw[Ht,HX,HP,IY];have:sizeLine=16777216\/1000000<sizeLine:=.inr ⋯;omega
end
section
variable {X:Cx}
theorem Ff {a b e:Expr}{p:Pos}{line:Nat}{env:Env}:swapsWithSole [.Subscript a b p] e line env=pure false:=by
 cases e<;>rfl
theorem Fg {a b e:Expr}{p:Pos}{env:Env}:swappedStores [.Subscript a b p] e env=pure none:=by
 cases e<;>rfl
theorem kM {a b e:Expr}{te:TE}{g:TG}{p pos:Pos}(he:PE X e te)(hg:PG X (.Subscript a b p) g):PS X (.Assign [.Subscript a b p] e pos) (xK te g):=cA he hg Ff Fg rfl
end
inductive lG  (vs:List V) (H:Hp) (Q:VK) (_:XK):Prop
 | mk (fv:V) (T:Str->Sx) (m:Nat) (_:vs=[fv]) (_:FV H fv T) (_:gM T m) (_:m<=60) (_:∀d' H',H d' = none->LT H' d' T m->ah H H'->Q (.ref d') H')
inductive tI  (vs:List V) (H:Hp) (Q:VK) (_:XK):Prop
 | mk (b:Addr) (fv:V) (T:Str->Sx) (xs:List Str) (_:vs=[.ref b,fv]) (_:cy H b) (_:FV H fv T) (_:cn xs T) (_:("zz" : Str)∈xs) (_:xs.length<=50) (_:∀v T' H',FV H' v T'->cn xs T'->cy H' b->Fix b H H'->Q v H')
theorem oE {α β : Type}{F:α->β->Prop}:∀{l:List α} {m:List β} (k:Nat),Paired F l m->Paired F (l.take k) (m.take k)
 | _,_,0,_=>.nil
 | _,_,_+1,.nil=>.nil
 | _,_,k+1,.cons f t=>.cons f (oE k t)
theorem oF {α β : Type}{F:α->β->Prop}:∀{l:List α} {m:List β} (k:Nat),Paired F l m->Paired F (l.drop k) (m.drop k)
 | _,_,0,h=>h
 | _,_,_+1,.nil=>.nil
 | _,_,k+1,.cons _ t=>oF k t
theorem kN {c:Bool}{A B C:Prop}(hz:C)(hx:C->c=true->A):if c=true then A else (if false=true then B else C):=by
 cases c
 ·exact hz
 ·exact hx hz rfl
theorem mh {α β : Type}{F:α->β->Prop}:∀{l:List α} {m:List β} (i:Nat),Paired F l m->Paired F (l.eraseIdx i) (m.eraseIdx i)
 | _,_,_,.nil=>.nil
 | _,_,0,.cons _ t=>t
 | _,_,i+1,.cons f t=>.cons f (mh i t)
theorem cI.xy {xs:List Str}{m:Nat}{ps:List Piece}(h:cI xs m ps)(ys:List Str):cI (xs++ys) m ps:=by
 have l:∀{x},x∈xs->x∈xs++ys:=λ h=>Ig _ h
 refine⟨λ p hp=>⟨(h.eX p hp).1,λ d hd=>?_⟩,λ p hp=>?_⟩
 ·have:=(h.eX p hp).2 d hd;cases d with
  | put x n=>exact⟨l this.1,this.2⟩
  | copy x y=>exact⟨l this.1,l this.2⟩
  | add x n=>exact⟨l this.1,this.2⟩
  | read x=>exact l this
  | tell x=>exact l this
 ·have:=h.ends p hp;obtain⟨ds,e⟩:=p;cases e with
  | stop=>exact True.intro
  | go q=>exact this
  | aR b x n q r=>exact⟨l this.1,this.2⟩
theorem cn.xy {xs:List Str}{T:Str->Sx}(h:cn xs T)(ys:List Str):cn (xs++ys) T:=⟨λ x hx=>Ig _ (h.sup x hx),h.le⟩
section
variable {prog:Program}{w:World}{A:Around}{E:AT}{s:Shared}
end
section
variable {X:Cx}{pins:BT}{Hh : List (Option V)}{H:Hp}{s:Shared}
end
section
variable {X:Cx}{pos:Pos}
end
section
variable {X:Cx}{pos:Pos}
end
section
variable {X:Cx}{pos:Pos}
end
section
variable {X:Cx}{K:Hl}
end
section
variable {X:Cx}
end
end L2
namespace LS
open PySem PySem.Spec PyProof.Rows L2
section
variable {prog:Program}{w:World}{A:Around}{E:AT}{s:Shared}{I l:Addr}{its:Array Value}
end
section
variable {prog:Program}{w:World}{A:Around}{E:AT}{s:Shared}{I l:Addr}{its:Array Value}
end
end LS
namespace L2
open PySem PySem.Spec PyProof.Rows
section
variable {X:Cx}
end
end L2
namespace LS
open PySem PySem.Spec PyProof.Rows L2
section
variable {prog:Program}{w:World}{K:Type}[DecidableEq K]{knd:KeyKind prog w K}
variable {A:Around}{E:AT}{s:Shared}{a:Addr}{ks:List K}
end
section
variable {prog:Program}{w:World}{A:Around}{E:AT}{s:Shared}
end
end LS
namespace L2
open PySem PySem.Spec PyProof.Rows LS
section
variable {X:Cx}
end
end L2
namespace HT
open PySem PySem.Spec PyProof.Rows
section
variable {prog:Program}{w:World}{A:Around}{E:AT}{s:Shared}
end
end HT
namespace L2
open PySem PySem.Spec PyProof.Rows LS
section
variable {X:Cx}
end
section
variable {prog:Program}{w:World}{A:Around}{E:AT}{s:Shared}
end
section
variable {X:Cx}
end
section
variable {X:Cx}
end
def bO:End->List PyData
 | .stop=>[.str "stop"]
 | .go _=>[.str "go"]
 | .aR b x n _ _=>[.str (wT b),.str x,.int n]
section
variable {ps:List Piece}{a b:Nat}{p q:Piece}
end
section
variable {X:Cx}{P:Program}{w:World}
end
theorem xA:∀{ds:List PyData},(∀d∈ds,fb d=true)->dt ds=true
 | [],_=>rfl
 | d::ds,h=>by show (fb d&&dt ds)=true;rw[h d (Hv ..),xA λ x hx=>h x (Hx _ hx)];rfl
theorem BY (d:cH):fb (bI d)=true:=by cases d<;>rfl
theorem Ai (ds:List cH):dt (ds.map bI)=true:=xA λ d hd=>by obtain⟨x,_,rfl⟩:=HE.mp hd;exact BY x
theorem BZ (e:End):dt (bO e)=true:=by cases e<;>rfl
theorem yD {e:End}(h:(e6 e).canLay0=true):(PyData.tuple (bO e)).canLay0=true:=by
 refine dU _ λ d hd=>?_
 cases e with
 | stop=>rw[Hm.mp hd];decide
 | go p=>rw[Hm.mp hd];decide
 | aR b x n p q =>
  have h:((PyData.str (wT b)).canLay0&&((PyData.str x).canLay0&&_))=true:=h;rw[HU,HU] at h
  rcases Ho.mp hd with rfl | hd
  ·exact h.1
  rcases Ho.mp hd with rfl | hd
  ·exact h.2.1
  rw[Hm.mp hd];rfl
theorem xB {H:Hp}(e:End):bp H (jY e) (bO e):=by
 cases e with
 | stop=>exact .cons (.str _) .nil
 | go p=>exact .cons (.str _) .nil
 | aR b x n p q=>exact .cons (.str _) (.cons (.str _) (.cons (.int _) .nil))
theorem gO {x y:PyData}(hx:gK x)(hy:gK y):PyData.eqv x y=decide (x=y):=by
 have h:=rC hx.key hy.key;by_cases e:x=y
 ·rw[decide_eq_true e,h,e]
 ·rw[decide_eq_false e];exact JS.mpr λ z=>e (h.mp z)
section
variable {P:Program}{w:World}{H H':Hp}{d:Addr}{n:Nat}{us:List ((Nat×Nat)×Addr)}
end
theorem take1 {α : Type}{ds:List α}{i:Nat}{d:α}(h:ds[i]?=some d):ds.take (i+1)=ds.take i++[d]:=by rw[HM,h];rfl
theorem nR {ps:List Piece}(hin:ef ps){p:Piece}(hp:p∈ps){k:Nat}(hk:k∈aU p.2):k<ps.length:=by
 have h1:=hin p hp;obtain⟨ds,e⟩:=p;cases e with
 | stop=>cases hk
 | go p=>rw[Hm.mp hk];exact h1
 | aR b x n p p2 =>
  rcases Ho.mp hk with z | z
  ·rw[z];exact h1.1
  ·rw[Hm.mp z];exact h1.2
section
variable (P:Program)(w:World)
end
theorem kO {X:Cx}{K:Hl}(h:X.K=K):zd X (Ey K):=by subst h;exact aL
section
variable {X:Cx}
end
theorem LT.qC {H:Hp}{d:Addr}{T:Str->Sx}{m k:Nat}(h:LT H d T m)(f:gM T k):LT H d T k:=by
 obtain⟨kvs,ks,g1,g2,g3,g4⟩:=h;exact⟨kvs,ks,g1,g2,g3,f ks g3 g2.nd⟩
section
variable {X:Cx}
end
section
variable {ps:List Piece}
end
theorem fZ (e:End):eY (bR e) 0=some (V.str (wE e)):=by cases e<;>exact cg
section
variable {X:Cx}
end
theorem bp.setAt {H:Hp}{v:V}{d:PyData}(r:bg H v d):∀{xs:List V} {ds:List PyData} (j:Nat),bp H xs ds->bp H (xs.set j v) (ds.set j d)
 | _,_,_,.nil=>.nil
 | _,_,0,.cons _ rs=>.cons r rs
 | _,_,j+1,.cons q rs=>.cons q (bp.setAt r j rs)
section
variable {prog:Program}{w:World}{A:Around}{E:AT}{s:Shared}
end
section
variable {X:Cx}
end
abbrev Gd:=(Nat×Nat)×List Str
section
variable {ps:List Piece}{ms:List Gd}{at_ f:Nat}{x:Gd}{p q:Piece}
end
section
variable (P:Program)(w:World)
end
section
variable {X:Cx}
end
def md (n x:Nat):Nat:=if x<n then x else x-n
section
variable {n odd a b i j:Nat}
end
open AutoSeq1 (wpAny_loadPart')
section
variable {prog:Program}{w:World}{A:Around}{E:AT}{s:Shared}
end
section
variable {prog:Program}{w:World}{A:Around}{E:AT}{s:Shared}
end
section
variable {X:Cx}
end
section
variable {ps qs:List Piece}{src:List Nat}
end
abbrev Pp:=Int×(Str->Sx)
def oG (H:Hp)(v:V)(c:Pp):Prop:=∃q u,v=.ref q/\H q=some (.tup [.int c.1,u])/\FV H u c.2
abbrev cC (H:Hp)(vs:List V)(cs:List Pp):Prop:=Paired (oG H) vs cs
theorem oG.aM {H H':Hp}{v:V}{c:Pp}(h:oG H v c)(k:∀p xs,H p=some (.tup xs)->H' p=some (.tup xs)):oG H' v c:=by
 obtain⟨q,u,e,h1,h2⟩:=h;exact⟨q,u,e,k _ _ h1,h2.aM k⟩
theorem cC.aM {H H':Hp}(k:∀p xs,H p=some (.tup xs)->H' p=some (.tup xs)):∀{vs:List V} {cs:List Pp},cC H vs cs->cC H' vs cs
 | _,_,.nil=>.nil
 | _,_,.cons h t=>.cons (h.aM k) (cC.aM k t)
theorem cC.same {H H':Hp}{vs:List V}{cs:List Pp}(h:cC H vs cs)(s:ah H H'):cC H' vs cs:=h.aM λ p xs e=>s _ _ e
def Mt (paper:List Pp)(at_ w:Nat)(U:Str->Sx):Prop:=∃c,paper[at_]?=some c/\c.1=(w:Int)/\∀x,jH (U x) (c.2 x)=true
def fm (paper:List Pp)(T:Str->Sx):End->End->Prop
 | .stop,.stop=>True
 | .go p,.go q=>Mt paper q p T
 | .aR b x n p q,.go r=>∃ld,cQ T (.aR b x n p q)=[ld]/\Mt paper r ld.1 ld.2
 | .aR b x n p q,.aR b' x' n' p' q'=>(b=b'/\x=x'/\n=n')/\(∀U,(cW T b x n true).map (b8 T x)=some U->Mt paper p' p U)/\∀U,(cW T b x n false).map (b8 T x)=some U->Mt paper q' q U
 | _,_=>False
structure yE (ps qs:List Piece) (paper:List Pp):Prop where
 len:paper.length=qs.length
 Ge:∀c∈paper,0<=c.1/\c.1<ps.length
 first:∃c,paper[0]?=some c/\c.1=0/\Sound c.2 (λ _=>0)
 all:∀(k:Nat) (c:Pp) (p q:Piece),paper[k]?=some c->ps[c.1.toNat]?=some p->qs[k]?=some q->p.1=q.1/\fm paper (aW c.2 p.1) p.2 q.2
theorem Aj {d e:cH}(h:bI d=bI e):d=e:=by
 have w:∀{a b:Str} {r r':List PyData},PyData.tuple (.str a::r)=PyData.tuple (.str b::r')->a=b/\r=r':=λ h=>by
  injection h with h
  injection h with h1 h2
  injection h1 with h1
  exact⟨h1,h2⟩
 have s1:∀{x y:Str} {r r':List PyData},PyData.str x::r=PyData.str y::r'->x=y/\r=r':=λ h=>by
  injection h with h1 h2
  injection h1 with h1
  exact⟨h1,h2⟩
 have i1:∀{x y:Int} {r r':List PyData},PyData.int x::r=PyData.int y::r'->x=y/\r=r':=λ h=>by
  injection h with h1 h2
  injection h1 with h1
  exact⟨h1,h2⟩
 cases d<;>cases e<;>first
  | (obtain⟨h1,h2⟩:=w h;exact absurd h1 ⋯)
  | skip
 ·obtain⟨_,h2⟩:=w h;obtain⟨rfl,h3⟩:=s1 h2;obtain⟨rfl,_⟩:=i1 h3;rfl
 ·obtain⟨_,h2⟩:=w h;obtain⟨rfl,h3⟩:=s1 h2;obtain⟨rfl,_⟩:=s1 h3;rfl
 ·obtain⟨_,h2⟩:=w h;obtain⟨rfl,h3⟩:=s1 h2;obtain⟨rfl,_⟩:=i1 h3;rfl
 ·obtain⟨_,h2⟩:=w h;obtain⟨rfl,h3⟩:=s1 h2;rfl
 ·obtain⟨_,h2⟩:=w h;obtain⟨rfl,h3⟩:=s1 h2;rfl
theorem qD:∀{ds es:List cH},ds.map bI=es.map bI->ds=es
 | [],[],_=>rfl
 | [],_::_,h=>nomatch h
 | _::_,[],h=>nomatch h
 | d::ds,e::es,h=>by
  injection h with h1 h2
  rw[Aj h1,qD h2]
theorem Ak {b b':Bool}(h:wT b=wT b'):b=b':=by
 cases b<;>cases b'<;>first | rfl | exact absurd h ⋯
theorem tJ {f:End}:bO .stop=bO f↔f=.stop:=by
 constructor
 ·intro h;cases f with
  | stop=>rfl
  | go q=>injection h with h _;injection h with h;exact absurd h ⋯
  | aR b x n p q=>injection h with _ h;cases h
 ·intro h;rw[h]
theorem xC {p:Nat}{f:End}:bO (.go p)=bO f↔∃q,f=.go q:=by
 constructor
 ·intro h;cases f with
  | stop=>injection h with h _;injection h with h;exact absurd h ⋯
  | go q=>exact⟨q,rfl⟩
  | aR b x n p q=>injection h with _ h;cases h
 ·rintro⟨q,rfl⟩;rfl
theorem vE {b:Bool}{x:Str}{n:Int}{p q:Nat}{f:End}:bO (.aR b x n p q)=bO f↔∃p' q',f=.aR b x n p' q':=by
 constructor
 ·intro h;cases f with
  | stop=>injection h with _ h;cases h
  | go q=>injection h with _ h;cases h
  | aR b' x' n' p' q' =>
   injection h with h1 h
   injection h with h2 h
   injection h with h3 _
   injection h1 with h1
   injection h2 with h2
   injection h3 with h3
   rw[Ak h1,h2,h3];exact⟨p',q',rfl⟩
 ·rintro⟨p',q',rfl⟩;rfl
theorem qE {paper:List Pp}{T:Str->Sx}{e f:End}(h:bO e=bO f):fm paper T e f↔∀(i w a:Nat) (U:Str->Sx),(aU e)[i]?=some w->(gN T e)[i]?=some (some U)->(aU f)[i]?=some a->Mt paper a w U:=by
 cases e with
 | stop =>
  rw[tJ.mp h.symm.symm];exact⟨λ _ i w a U h1=>by simp[aU] at h1,λ _=>True.intro⟩
 | go p =>
  obtain⟨q,rfl⟩:=xC.mp h
  constructor
  ·intro hm i w a U h1 h2 h3
   match i,h1,h2,h3 with
   | 0,h1,h2,h3=>cases h1;cases h2;cases h3;exact hm
   | i+1,h1,_,_=>simp[aU] at h1
  ·intro hm;exact hm 0 p q T rfl rfl rfl
 | aR b x n p q =>
  obtain⟨p',q',rfl⟩:=vE.mp h
  constructor
  ·rintro⟨_,m1,m2⟩ i w a U h1 h2 h3
   match i,h1,h2,h3 with
   | 0,h1,h2,h3=>cases h1;cases h3;exact m1 U (HB.inj h2)
   | 1,h1,h2,h3=>cases h1;cases h3;exact m2 U (HB.inj h2)
   | i+2,h1,_,_=>simp[aU] at h1
  ·intro hm;refine⟨⟨rfl,rfl,rfl⟩,λ U hU=>hm 0 p p' U rfl (by show some _=some _;rw[hU]) rfl,λ U hU=>hm 1 q q' U rfl (by show some _=some _;rw[hU]) rfl⟩
theorem yF {paper:List Pp}{T:Str->Sx}{e f:End}(h:bO e≠bO f):fm paper T e f↔∃r ld,f=.go r/\cQ T e=[ld]/\Mt paper r ld.1 ld.2:=by
 cases e with
 | stop =>
  cases f with
  | stop=>exact absurd rfl h
  | go q=>exact⟨λ z=>False.elim z,λ ⟨r,ld,_,h2,_⟩=>by cases h2⟩
  | aR b x n p q=>exact⟨λ z=>False.elim z,λ ⟨r,ld,h1,_⟩=>by cases h1⟩
 | go p =>
  cases f with
  | stop=>exact⟨λ z=>False.elim z,λ ⟨r,ld,h1,_⟩=>by cases h1⟩
  | go q=>exact absurd rfl h
  | aR b x n p q=>exact⟨λ z=>False.elim z,λ ⟨r,ld,h1,_⟩=>by cases h1⟩
 | aR b x n p q =>
  cases f with
  | stop=>exact⟨λ z=>False.elim z,λ ⟨r,ld,h1,_⟩=>by cases h1⟩
  | go r=>exact⟨λ ⟨ld,h1,h2⟩=>⟨r,ld,rfl,h1,h2⟩,λ ⟨r',ld,h1,h2,h3⟩=>by cases h1;exact⟨ld,h2,h3⟩⟩
  | aR b' x' n' p' q' =>
   refine⟨λ ⟨⟨h1,h2,h3⟩,_⟩=>?_,λ ⟨r,ld,h1,_⟩=>by cases h1⟩;subst h1 h2 h3;exact absurd rfl h
theorem jZ {e:End}(h:(e6 e).canLay0=true):gK (.tuple (bO e)) where
 key:=BZ e
 lay:=yD h
 dep:=by
  have h2:PyData.depthAll (bO e)<=0:=rE _ λ d hd=>by
   cases e with
   | stop=>rw[Hm.mp hd];exact Hn 0
   | go q=>rw[Hm.mp hd];exact Hn 0
   | aR b x n q r =>
    rcases Ho.mp hd with rfl | hd
    ·exact Hn 0
    rcases Ho.mp hd with rfl | hd
    ·exact Hn 0
    rw[Hm.mp hd];exact Hn 0
  show PyData.depthAll (bO e)+1<=7;omega
 tup:=⟨_,rfl⟩
theorem ie {ds:List cH}(h:(PyData.tuple (ds.map bI)).canLay0=true):gK (.tuple (ds.map bI)) where
 key:=Ai ds
 lay:=h
 dep:=by
  have h1:=rE (ds.map bI) λ d hd=>by obtain⟨x,_,rfl⟩:=HE.mp hd;exact BK x
  show PyData.depthAll (ds.map bI)+1<=7;omega
 tup:=⟨_,rfl⟩
theorem lH {ds es:List cH}:(PyData.tuple (ds.map bI)=.tuple (es.map bI))↔ds=es:=⟨λ h=>by injection h with h;exact qD h,λ h=>by rw[h]⟩
theorem wj {X:Cx} {K:Hl} (hK:X.K=K):eR X (.builtin "len") (λ xs H Q=>∃p ys,xs=[V.ref p]/\(aT K H p ys\/au K H p ys)/\Q (V.int (ys.length:Nat)) H):=by subst hK;exact aO
def jK (n:Nat)(c:Pp):Bool:=decide (0<=c.1)&&decide (c.1<(n:Int))
theorem xD {n:Nat}{c:Pp}:jK n c=true↔0<=c.1/\c.1<n:=by
 unfold jK;rw[HU,decide_eq_true_eq,decide_eq_true_eq]
inductive rM  (vs:List V) (H:Hp) (Q:VK) (_:XK):Prop
 | mk (ov lv:V) (c:Pp) (k:Nat) (U:Str->Sx) (_:vs=[ov,lv]) (_:oG H ov c) (_:PV H lv (k,U)) (_:gM c.2 63) (_:∀b H',(b=true↔(c.1=(k:Int)/\∀x,jH (U x) (c.2 x)=true))->ah H H'->Q (.bl b) H')
inductive tK  (vs:List V) (H:Hp) (Q:VK) (_:XK):Prop
 | mk (fv:V) (ea fa pa:Addr) (T:Str->Sx) (e f:End) (us:List V) (paper:List Pp) (_:vs=[fv,.ref ea,.ref fa,.ref pa]) (_:FV H fv T) (_:H ea=some (.tup (bR e))) (_:H fa=some (.tup (bR f))) (_:H pa=some (.tup us)) (_:cC H us paper) (_:gM T 62) (_:bO e=bO f) (_:(∀w∈aU f,w<paper.length)) (_:(∀c∈paper,gM c.2 63)) (_:∀b H',(b=true↔fm paper T e f)->ah H H'->Q (.bl b) H')
inductive qF  (vs:List V) (H:Hp) (Q:VK) (_:XK):Prop
 | mk (fv:V) (ea fa pa:Addr) (T:Str->Sx) (e f:End) (us:List V) (paper:List Pp) (xs:List Str) (_:vs=[fv,.ref ea,.ref fa,.ref pa]) (_:FV H fv T) (_:H ea=some (.tup (bR e))) (_:H fa=some (.tup (bR f))) (_:H pa=some (.tup us)) (_:cC H us paper) (_:cn xs T) (_:xs.length<=62) (_:(e6 e).canLay0=true) (_:(e6 f).canLay0=true) (_:(∀w∈aU f,w<paper.length)) (_:(∀c∈paper,gM c.2 63)) (_:∀b H',(b=true↔fm paper T e f)->ah H H'->Q (.bl b) H')
inductive m7  (vs:List V) (H:Hp) (Q:VK) (_:XK):Prop
 | mk (ov:V) (pc qc pa da ea da' ea':Addr) (ws ws' us:List V) (c:Pp) (ds ds':List cH) (e f:End) (paper:List Pp) (xs:List Str) (_:vs=[ov,.ref pc,.ref qc,.ref pa]) (_:oG H ov c) (_:H pc=some (.tup [.ref da,.ref ea])) (_:H da=some (.tup ws)) (_:bp H ws (ds.map bI)) (_:H ea=some (.tup (bR e))) (_:H qc=some (.tup [.ref da',.ref ea'])) (_:H da' = some (.tup ws')) (_:bp H ws' (ds'.map bI)) (_:H ea' = some (.tup (bR f))) (_:H pa=some (.tup us)) (_:cC H us paper) (_:cn xs c.2) (_:(∀d∈ds,fz xs d)) (_:ds.length<=12) (_:xs.length<=50) (_:(PyData.tuple (ds.map bI)).canLay0=true) (_:(PyData.tuple (ds'.map bI)).canLay0=true) (_:(e6 e).canLay0=true) (_:(e6 f).canLay0=true) (_:(∀w∈aU f,w<paper.length)) (_:(∀c∈paper,gM c.2 63)) (_:∀b H',(b=true↔(ds=ds'/\fm paper (aW c.2 ds) e f))->ah H H'->Q (.bl b) H')
inductive gd  (vs:List V) (H:Hp) (Q:VK) (_:XK):Prop
 | mk (plv qlv:V) (pa:Addr) (ps qs:List Piece) (us:List V) (paper:List Pp) (xs:List Str) (m:Nat) (_:vs=[plv,qlv,.ref pa]) (_:bg H plv (eF ps)) (_:bg H qlv (eF qs)) (_:H pa=some (.tup us)) (_:cC H us paper) (_:cI xs m ps) (_:ef qs) (_:j4 qs) (_:(∀x∈xs,dM x)) (_:(∀c∈paper,cn xs c.2)) (_:xs.length<=50) (_:m<=12) (_:0<ps.length) (_:ps.length<=400) (_:0<paper.length) (_:paper.length<=401) (_:∀b H',(b=true↔yE ps qs paper)->ah H H'->Q (.bl b) H')
def jL (c:Cp):Pp:=((c.1:Int),c.2)
theorem vF {cs:List Cp}{k:Nat}{c:Cp}(h:cs[k]?=some c):(cs.map jL)[k]?=some (jL c):=by rw[HC,h];rfl
theorem tL {xs:List Str}{ps:List Piece}{m most:Nat}(pok:cI xs m ps)(hn0:0<ps.length)(hm:1<=most):yE ps (eV ps most).2 ((eV ps most).1.map jL):=by
 obtain⟨I,hl,more,e⟩:=jJ pok hn0 hm;refine⟨by rw[Hk,hl],λ c hc=>?_,⟨jL (ip ps),vF (by rw[e];rfl),?_,?_⟩,λ k c p q hk hp hq=>?_⟩
 ·obtain⟨c',hc',rfl⟩:=HE.mp hc;have:=(I.ok c' hc').1;show 0<=(c'.1:Int)/\(c'.1:Int)<_;omega
 ·unfold ip;split<;>rfl
 ·unfold ip;split
  ·exact qA
  ·intro x;show cN 0 (startT ps x).1 (startT ps x).2=true;unfold startT;split<;>rfl
 ·obtain⟨c',pc,ns,h1,h2,rfl,h4⟩:=I.rel k q hq;rw[vF h1] at hk;cases hk;have hp:ps[c'.1]?=some p:=hp;rw[h2] at hp;have hp:=HB.inj hp;subst hp;exists rfl;show fm ((eV ps most).1.map jL) (aW c'.2 pc.1) pc.2 (j5 pc.2 ns);generalize (eV ps most).1=cs at h4;have go:∀{l:Cp} {a:Nat},(∃c':Cp,cs[a]?=some c'/\c'.1=l.1/\((¬dh ps l.1/\c'.2=l.2)\/(c'.2=T0/\(dh ps l.1\/most<=cs.length))))->Mt (cs.map jL) a l.1 l.2:=λ ⟨c',g1,g2,g3⟩=>by
   refine⟨jL c',vF g1,by show (c'.1:Int)=_;rw[g2],λ x=>?_⟩;show jH _ (c'.2 x)=true
   rcases g3 with ⟨_,e⟩ | ⟨e,_⟩
   ·rw[e];exact BN _
   ·rw[e];exact nQ _
  obtain⟨ds,e⟩:=pc;dsimp only at h4 ⊢;generalize aW c'.2 ds=T at h4;unfold Goes at h4;cases e with
  | stop =>
   cases h4;exact True.intro
  | go q =>
   have hl1:cQ T (.go q)=[(q,T)]:=rfl;rw[hl1] at h4;cases h4 with
   | cons r t =>
    cases t;exact go r
  | aR b x n q r =>
   have hld:=BW (T:=T) (b:=b) (x:=x) (n:=n) (q:=q) (r:=r);rw[hld] at h4;cases h1':cW T b x n true with
   | none =>
    cases h2':cW T b x n false with
    | none =>
     rw[h1',h2'] at h4;cases h4;refine⟨⟨rfl,rfl,rfl⟩,λ U hU=>?_,λ U hU=>?_⟩
     ·rw[h1'] at hU;cases hU
     ·rw[h2'] at hU;cases hU
    | some s2 =>
     rw[h1',h2'] at h4 hld;cases h4 with
     | cons r1 t =>
      cases t;exact⟨_,hld,go r1⟩
   | some s1 =>
    cases h2':cW T b x n false with
    | none =>
     rw[h1',h2'] at h4 hld;cases h4 with
     | cons r1 t =>
      cases t;exact⟨_,hld,go r1⟩
    | some s2 =>
     rw[h1',h2'] at h4;cases h4 with
     | cons r1 t =>
      cases t with
      | cons r2 t =>
       cases t;refine⟨⟨rfl,rfl,rfl⟩,λ U hU=>?_,λ U hU=>?_⟩
       ·rw[h1'] at hU;cases hU;exact go r1
       ·rw[h2'] at hU;cases hU;exact go r2
def eW (n:Nat):List Pp:=(HY n).map λ (k:Nat)=>((k:Int),T0)
theorem plain_at {n k:Nat}(h:k<n):(eW n)[k]?=some ((k:Int),T0):=by
 unfold eW;rw[HC,List.getElem?_range h];rfl
theorem wm {ps:List Piece}(hin:ef ps)(hn0:0<ps.length):yE ps ps (eW ps.length):=by
 have mt:∀{p:Nat} {U:Str->Sx},p<ps.length->Mt (eW ps.length) p p U:=λ {p U} h=>⟨_,plain_at h,rfl,λ x=>nQ _⟩
 refine⟨by unfold eW;rw[Hk,Js],λ c hc=>?_,⟨_,plain_at hn0,rfl,qA⟩,λ k c p q hk hp hq=>?_⟩
 ·obtain⟨k,hk,rfl⟩:=HE.mp hc;have:=IQ.mp hk;show 0<=(k:Int)/\(k:Int)<_;omega
 ·have hkl:=(HD.mp hq).1;rw[plain_at hkl] at hk;cases hk;have hp:ps[k]?=some p:=hp;rw[hq] at hp;have hp:=HB.inj hp;subst hp;exists rfl;obtain⟨ds,e⟩:=q;have hw:=rK hin hq;cases e with
  | stop=>exact True.intro
  | go p=>exact mt (hw p (Hm.mpr rfl))
  | aR b x n p r=>exact⟨⟨rfl,rfl,rfl⟩,λ U _=>mt (hw p (Hv ..)),λ U _=>mt (hw r (Hx _ (Hv ..)))⟩
section
variable {P:Program}{w:World}{K:Hl}{mg:Ch}{base h:Heap}{x q m:Str}{st:Stmt}{f C:Addr}{fd:FuncData}{k:Nat}{ps:List Str}{sp:Sp}
structure bD (K:Hl) (x:Str) (st:Stmt) (f:Addr) (fd:FuncData):Prop where
 a:HV K mainGlobals x=some (some (.ref f))
 F:b4 K x x st f fd
structure qG (K:Hl) (C:Addr) (x q:Str) (st:Stmt) (f:Addr) (fd:FuncData):Prop where
 a:Ic K (.ref C) x=some (some (.ref f))
 i:Jj K (.ref f)=true
 F:b4 K x q st f fd
section
variable {oc:Value}{od an:Option Addr}{osl:Cl}{kV doc pm cdv ct:Value}
theorem def_mk (a:HV K mainGlobals x=some (some (.ref f)))(l:K.lookup f=some ⟨oc,od,.func (Ia x x (eE st) (dE st) (aI st) .none kV doc pm an cdv ct),osl⟩)
  (c:IT K cdv x=true) (k:Iw K (.ref f)=true):bD K x st f (Ia x x (eE st) (dE st) (aI st) .none kV doc pm an cdv ct):=⟨a,zk l c k⟩
theorem met_mk (a:Ic K (.ref C) x=some (some (.ref f)))(i:Jj K (.ref f)=true)(l:K.lookup f=some ⟨oc,od,.func (Ia x q (eE st) (dE st) (aI st) .none kV doc pm an cdv ct),osl⟩)
  (c:IT K cdv q=true) (k:Iw K (.ref f)=true):qG K C x q st f (Ia x q (eE st) (dE st) (aI st) .none kV doc pm an cdv ct):=⟨a,i,zk l c k⟩
end
def lI (x q:Str)(st:Stmt)(ps:List Str):Prop:=∀(kV doc pm:Value) (an:Option Addr) (cdv ct:Value) (us:List Value),us.length=ps.length->bindArgs (Ia x q (eE st) (dE st) (aI st) .none kV doc pm an cdv ct) ⟨us,[]⟩=pure (ps.zip us)
theorem bu (P:Program)(w:World)(base:Heap)(X:K.In h)(G:h.Ns mainGlobals mg)(d:bD K x st f fd)(o:bA P w K mg base bY k f fd ps sp)(b:lI x x st ps):Own P w K mg base x k ps sp:=⟨⟨_,_,o,IW X G d.a,d.F.kp,d.F.binds b⟩⟩
theorem DS (P:Program)(w:World)(base:Heap)(mg:Ch)(T:lW K C)(d:qG K C x q st f fd)(o:bA P w K mg base bY k f fd ps sp)(b:lI x q st ps):Bk P w K mg base C x k ps sp:=⟨T,⟨_,_,o,⟨d.a,d.i,d.F.kp⟩,d.F.binds b⟩⟩
theorem DT (P:Program) (w:World) (base:Heap) (X:K.In h) (G:h.Ns mainGlobals mg) (aC:HV K mainGlobals m=some (some (.ref C))) (mk:JC K C=true) (kc:Iw K (.ref C)=true) (d:qG K C "__init__" q st f fd) (o:bA P w K mg base bY k f fd ps sp) (b:lI "__init__" q st ps):Bm P w K mg base C m k ps sp:=⟨⟨_,_,o,⟨mk,d.a,d.i,kc⟩,IW X G aC,d.F.binds b⟩⟩
section
variable {p1 p2 p3 p4 p5 p6:Str}
theorem m8 (h:∀(kV doc pm:Value) (an:Option Addr) (cdv ct u1:Value),bindArgs (Ia x q (eE st) (dE st) (aI st) .none kV doc pm an cdv ct) ⟨[u1],[]⟩=pure [(p1,u1)]):lI x q st [p1]:=λ _ _ _ _ _ _ us hl=>match us,hl with | [_],_=>h ..
theorem fj (h:∀(kV doc pm:Value) (an:Option Addr) (cdv ct u1 u2:Value),bindArgs (Ia x q (eE st) (dE st) (aI st) .none kV doc pm an cdv ct) ⟨[u1,u2],[]⟩=pure [(p1,u1),(p2,u2)]):lI x q st [p1,p2]:=λ _ _ _ _ _ _ us hl=>match us,hl with | [_,_],_=>h ..
theorem oH (h:∀(kV doc pm:Value) (an:Option Addr) (cdv ct u1 u2 u3:Value),bindArgs (Ia x q (eE st) (dE st) (aI st) .none kV doc pm an cdv ct) ⟨[u1,u2,u3],[]⟩=pure [(p1,u1),(p2,u2),(p3,u3)]):lI x q st [p1,p2,p3]:=λ _ _ _ _ _ _ us hl=>match us,hl with | [_,_,_],_=>h ..
theorem vG (h:∀(kV doc pm:Value) (an:Option Addr) (cdv ct u1 u2 u3 u4:Value),bindArgs (Ia x q (eE st) (dE st) (aI st) .none kV doc pm an cdv ct) ⟨[u1,u2,u3,u4],[]⟩=pure [(p1,u1),(p2,u2),(p3,u3),(p4,u4)]):lI x q st [p1,p2,p3,p4]:=λ _ _ _ _ _ _ us hl=>match us,hl with | [_,_,_,_],_=>h ..
end
end
inductive tM  (vs:List V) (H:Hp) (Q:VK) (_:XK):Prop
 | mk (b ea:Addr) (e:End) (c:Nat) (_:vs=[.ref b,.ref ea,.int (c:Nat)]) (_:cy H b) (_:H ea=some (.tup (bR e))) (_:(e6 e).canLay0=true) (_:(∀k∈aU e,k<c)) (_:0<c) (_:c<=1000) (_:∀t e' H',H' t=some (.tup (bR e'))->(e6 e').canLay0=true->(∀k∈aU e',k<c)->cy H' b->Fix b H H'->Q (.ref t) H')
inductive tN  (vs:List V) (H:Hp) (Q:VK) (_:XK):Prop
 | mk (b:Addr) (qlv:V) (qs:List Piece) (_:vs=[.ref b,qlv]) (_:cy H b) (_:bg H qlv (eF qs)) (_:ef qs) (_:j4 qs) (_:(∀p∈qs,p.1.length<=12)) (_:0<qs.length) (_:qs.length<=1000) (_:∀v qs' H',bg H' v (eF qs')->qs'.length=qs.length->ef qs'->j4 qs'->(∀p∈qs',p.1.length<=12)->cy H' b->Fix b H H'->Q v H')
inductive tO  (vs:List V) (H:Hp) (Q:VK) (_:XK):Prop
 | mk (b pa:Addr) (us:List V) (paper:List Pp) (xs:List Str) (n:Int) (_:vs=[.ref b,.ref pa,.int n]) (_:cy H b) (_:H pa=some (.tup us)) (_:cC H us paper) (_:(∀c∈paper,cn xs c.2)) (_:("zz" : Str)∈xs) (_:xs.length<=50) (_:0<paper.length) (_:paper.length<=400) (_:∀(t:Addr) (us':List V) (paper':List Pp) H',H' t=some (.tup us')->cC H' us' paper'->(∀c∈paper',cn xs c.2)->0<paper'.length->paper'.length<=400->cy H' b->Fix b H H'->Q (.ref t) H')
theorem cC.vH {H H':Hp}{b:Addr}{us:List V}{tab:List Pp}(h:cC H us tab)(B:cy H b)(X:Fix b H H'):cC H' us tab:=h.aM λ p zs e=>X p _ e (B.bK e)
theorem m9 (p:Nat):(e6 (.go p)).canLay0=true:=dU _ λ y hy=>by
 rcases Ho.mp hy with rfl | hy
 ·decide
 ·rw[Hm.mp hy];rfl
theorem B0:(e6 .stop).canLay0=true:=dU _ λ y hy=>by rw[Hm.mp hy];decide
theorem nS {b:Bool}{x:Str}{n:Int}{p q:Nat}(h:(PyData.str x).canLay0=true):(e6 (.aR b x n p q)).canLay0=true:=dU _ λ y hy=>by
 rcases Ho.mp hy with rfl | hy
 ·cases b<;>decide
 rcases Ho.mp hy with rfl | hy
 ·exact h
 rcases Ho.mp hy with rfl | hy
 ·rfl
 rcases Ho.mp hy with rfl | hy
 ·rfl
 ·rw[Hm.mp hy];rfl
theorem jM {b:Bool}{x:Str}{n:Int}{p q:Nat}(h:(e6 (.aR b x n p q)).canLay0=true):(PyData.str x).canLay0=true:=by
 have h:((PyData.str (wT b)).canLay0&&((PyData.str x).canLay0&&_))=true:=h;rw[HU,HU] at h;exact h.2.1
theorem bp.CV {H:Hp}:∀(n:Nat) {xs:List V} {ds:List PyData},bp H xs ds->bp H (xs.drop n) (ds.drop n)
 | 0,_,_,h=>h
 | n+1,_,_,.nil=>.nil
 | n+1,_,_,.cons _ t=>bp.CV n t
theorem bp.CW {H:Hp}:∀(n:Nat) {xs:List V} {ds:List PyData},bp H xs ds->bp H (xs.take n) (ds.take n)
 | 0,_,_,h=>.nil
 | n+1,_,_,.nil=>.nil
 | n+1,_,_,.cons h t=>.cons h (bp.CW n t)
theorem bp.Fh {H:Hp}{ys:List V}{es:List PyData}(g:bp H ys es):∀{xs:List V} {ds:List PyData},bp H xs ds->bp H (xs++ys) (ds++es)
 | _,_,.nil=>g
 | _,_,.cons h t=>.cons h (bp.Fh g t)
theorem Al {H:Hp}{xs:List V}{ds:List cH}(h:bp H xs (ds.map bI))(lo hi:Option Int):∃ds':List cH,bp H (cm xs lo hi) (ds'.map bI)/\∀d∈ds',d∈ds:=by
 refine⟨(ds.drop (HT.bU xs.length 0 lo)).take (HT.bU xs.length xs.length hi-HT.bU xs.length 0 lo),?_,λ d hd=>List.mem_of_mem_drop (Jx hd)⟩;have:=(h.CV (HT.bU xs.length 0 lo)).CW (HT.bU xs.length xs.length hi-HT.bU xs.length 0 lo);rw[<-List.map_drop,<-List.map_take] at this;exact this
theorem xE:∀{ds:List PyData},(PyData.tuple ds).canLay0=true->∀d∈ds,d.canLay0=true
 | [],_,d,hd=>nomatch hd
 | x::ds,h,d,hd=>by
  have h:(x.canLay0&&(PyData.tuple ds).canLay0)=true:=h;rw[HU] at h
  rcases Ho.mp hd with rfl | hd
  ·exact h.1
  ·exact xE h.2 d hd
theorem xF {ds ds':List cH} (h:(PyData.tuple (ds.map bI)).canLay0=true) (hs:∀d∈ds',d∈ds\/d=.tell "zz"):(PyData.tuple (ds'.map bI)).canLay0=true:=dU _ λ y hy=>by
 obtain⟨d,hd,rfl⟩:=HE.mp hy
 rcases hs d hd with hd | rfl
 ·exact xE h _ (List.mem_map_of_mem hd)
 ·decide
theorem Ca {qs:List Piece}{k:Nat}{p:Piece}(hin:ef qs)(hw:∀w∈aU p.2,w<qs.length):ef (qs.set k p):=λ q hq=>by
 have key:∀q∈qs.set k p,∀w∈aU q.2,w<qs.length:=λ q hq w hw'=>by
  rcases Jy hq with hq | rfl
  ·exact nR hin hq hw'
  ·exact hw w hw'
 have h:=key q hq;rw[IP];obtain⟨ds,e⟩:=q;cases e with
 | stop=>exact True.intro
 | go r=>exact h r (Hm.mpr rfl)
 | aR b x n r s=>exact⟨h r (Hv ..),h s (Hx _ (Hv ..))⟩
theorem DU {qs:List Piece}{k:Nat}{p:Piece}(h:j4 qs)(hp:(PyData.tuple (p.1.map bI)).canLay0=true/\(e6 p.2).canLay0=true):j4 (qs.set k p):=λ q hq=>by
 rcases Jy hq with hq | rfl
 ·exact h q hq
 ·exact hp
theorem DV {c:Bool}{A B:Prop}{C:Hp->Prop}{H3:Hp}(hz:∀H',ah H3 H'->C H')(hx:(∀H',ah H3 H'->C H')->c=true->A):if c=true then A else (if false=true then B else C H3):=by
 cases c
 ·exact hz H3 (ah.refl H3)
 ·exact hx hz rfl
theorem Cb {xs:List V}{k:Nat}(h:k<xs.length):(cm xs none (some (k:Int))).length+(cm xs (some ((k+1:Nat):Int)) none).length<xs.length:=by
 unfold cm;rw[HP,IY,HP,IY,HT.jd,HT.jd,HT.kU,HT.kU];omega
theorem vI {H:Hp}:∀{vs:List V} {ds:List PyData} {cs:List Cp},bp H vs ds->Paired (λ d c=>CD c d) ds cs->cC H vs (cs.map jL)
 | _,_,_,.nil,.nil=>.nil
 | _,_,_,.cons h t,.cons g t'=>by
  refine .cons ?_ (vI t t');obtain⟨fd,hf,rfl⟩:=g;obtain⟨pa,pvs,rfl,hpm,rpv⟩:=bg.bQ h;obtain⟨y1,t1,rfl,q1,rpv⟩:=rpv.cons_inv;obtain⟨y2,t2,rfl,q2,rpv⟩:=rpv.cons_inv;have z:=rpv.nil_inv;subst z;rw[q1.int_inv] at hpm;exact⟨pa,y2,rfl,hpm,hf.fv q2⟩
theorem rN:dM ("zz" : Str):=by constructor<;>decide
theorem tP {xs:List Str}{n:Nat}:∀c∈eW n,cn xs c.2:=λ c hc=>by
 obtain⟨k,_,rfl⟩:=HE.mp hc;exact cn.zero
inductive tQ  (vs:List V) (H:Hp) (Q:VK) (_:XK):Prop
 | mk (d e:Addr) (T U:Str->Sx) (m:Nat) (_:vs=[.ref d,.ref e]) (_:LT H d T m) (_:LT H e U m) (_:∀b H',(b=true↔∀x,jH (U x) (T x)=true)->ah H H'->Q (.bl b) H')
inductive xG  (vs:List V) (H:Hp) (Q:VK) (_:XK):Prop
 | mk (d p:Addr) (T:Str->Sx) (m:Nat) (ws:List V) (ds:List cH) (pool:List Str) (_:vs=[.ref d,.ref p]) (_:LT H d T m) (_:H p=some (.tup ws)) (_:bp H ws (ds.map bI)) (_:m<=60) (_:m=pool.length) (_:cn pool T) (_:(∀e∈ds,fz pool e)) (_:∀d' H',LT H' d' (aW T ds) m->ah H H'->Q (.ref d') H')
section
variable {X:Cx}{pins:BT}{Hh : List (Option V)}{H H':Hp}{s:Shared}{h':Heap}
def rO (K:Hl)(a b:Addr):It :=
 ⟨λ i H=>∃xs ys x y,aT K H a xs/\aT K H b ys/\xs[i]?=some x/\ys[i]?=some y,
  λ i H v H'=>∃t x y,v=.ref t/\H t=none/\H' = upd H t (.tup [x,y])/\∀xs ys,aT K H a xs->aT K H b ys->xs[i]?=some x/\ys[i]?=some y,
  λ i H=>∃xs ys,aT K H a xs/\aT K H b ys/\(xs.length<=i\/ys.length<=i)⟩
theorem Am {P:Program}{w:World}{K:Hl}{elts:List Expr}{kk:Nat}{pos:Pos}(a b z p q j k:Addr)(D:ZipApart z p q j k a b) :
  Turn P w K (.Tuple elts kk pos) (rO K a b) [z,p,q,j,k] z (λ i h=>IsZip h z p q .none/\IsPair h p (.ref j) (.ref k)/\(∃u v,IsPair h q u v)/\h.IsListIter j a i/\h.IsListIter k b i) where
 mem:=by simp
 obj:=λ i h st c hc=>by
  obtain⟨gz,gp,⟨u,v,gq⟩,⟨oj,ej,cj,dj⟩,⟨ok,ek,ck,dk⟩⟩:=st;simp only[Ho,Ie,or_false] at hc
  rcases hc with rfl | rfl | rfl | rfl | rfl
  ·exact⟨_,gz,λ v e=>by cases e⟩
  ·exact⟨_,gp,λ v e=>by cases e⟩
  ·exact⟨_,gq,λ v e=>by cases e⟩
  ·exact⟨oj,ej,λ v e=>by rw[dj] at e;cases e⟩
  ·exact⟨ok,ek,λ v e=>by rw[dk] at e;cases e⟩
 keep:=λ i h g st kp=>by
  obtain⟨gz,gp,⟨u,v,gq⟩,⟨oj,ej,rj⟩,⟨ok,ek,rk⟩⟩:=st;exact⟨kp z (by simp) _ gz,kp p (by simp) _ gp,⟨u,v,kp q (by simp) _ gq⟩,⟨oj,kp j (by simp) _ ej,rj⟩,⟨ok,kp k (by simp) _ ek,rk⟩⟩
 item:=by
  intro X hP hw hK hc i pins s Hh H E I hf st hg;subst hP hw hK;obtain⟨gz,gp,⟨u,v,gq⟩,gj,gk⟩:=st;obtain⟨xs,ys,x,y,ha,hb,hx,hy⟩:=hg;obtain⟨is,ra,pa,_⟩:=I.list ha;obtain⟨js,rb,pb,_⟩:=I.list hb;obtain⟨xv,hxv,rx⟩:=ra.get hx;obtain⟨yv,hyv,ry⟩:=rb.get hy;have sz:∀c∈[z,p,q,j,k],c≠s.heap.objs.size:=λ c hc e=>by
   subst e;simp only[Ho,Ie,or_false] at hc
   rcases hc with e | e | e | e | e
   ·exact absurd (Hq gz) (by rw[<-e];exact HG _)
   ·exact absurd (Hq gp) (by rw[<-e];exact HG _)
   ·exact absurd (Hq gq) (by rw[<-e];exact HG _)
   ·obtain⟨oj,ej,_⟩:=gj;exact absurd (Hq ej) (by rw[<-e];exact HG _)
   ·obtain⟨ok,ek,_⟩:=gk;exact absurd (Hq ek) (by rw[<-e];exact HG _)
  refine wpAny_pyNext_zip_item D gz gp gq gj gk pa.isList pb.isList (x:=xv) (y:=yv) (by simpa using hxv) (by simpa using hyv) λ g a1 a2 a3 a4 a5 a6 hk=>?_
  refine⟨.ref s.heap.objs.size,rfl,KJ a1 λ g' gz' sb=>?_⟩;have fr:=I.bc.fresh (a:=s.heap.objs.size) (Hn _);have I1:Inv X pins Hh (upd H s.heap.objs.size (.tup [x,y])) { s with heap:=s.heap.push { cls:=.type "tuple",data:=.seq #[xv,yv] },toks:=s.toks } :=
   I.laid (λ _ _ e=>Hr _ e) (Hn _) ⟨by show 2<=sizeLine;decide,[xv,yv],.cons rx (.cons ry .nil),by first | exact IsTup.new _ _ | exact⟨_,Hs _ rfl,rfl,_,rfl,rfl⟩⟩
  have f1:∀c∈[z,p,q,j,k],iq X pins (upd H s.heap.objs.size (.tup [x,y])) c:=λ c hc=>by
   obtain⟨f0,fr'⟩:=hf c hc;exact⟨by rw[av (sz c hc)];exact f0,fr'⟩
  have I2:Inv X pins Hh (upd H s.heap.objs.size (.tup [x,y])) { s with heap:=g',toks:=s.toks }:=Inv.je (s:={ s with heap:=s.heap.push { cls:=.type "tuple",data:=.seq #[xv,yv] },toks:=s.toks }) (fp:=[z,p,q,j,k]) (h':=g') (t':=s.toks) I1 (λ c o hc e=>by
   simp only[Ho,Ie,or_false,not_or] at hc;refine sb.extBut _ _ hc.1 ?_
   rcases J2 e with ⟨rfl,rfl⟩ | e
   ·exact a5
   ·exact hk c o hc.1 hc.2.2.1 hc.2.2.2.1 hc.2.2.2.2 e) f1
  refine⟨.ref s.heap.objs.size,_,I2,rfl,⟨_,x,y,rfl,fr,rfl,λ xs' ys' h1 h2=>?_⟩,⟨gz',sb.extBut _ _ D.TIz (hk _ _ D.TIz D.TITO D.TIi1 D.TIi2 gp),⟨xv,yv,sb.extBut _ _ D.TOz a2⟩,a3.extBut sb.extBut D.i1z,a4.extBut sb.extBut D.i2z⟩,λ c hc=>(f1 c hc).1⟩;rw[I.oU h1 ha,I.oU h2 hb];exact⟨hx,hy⟩
 done:=by
  intro X hP hw hK hc i pins s Hh H E I hf st hg;subst hP hw hK;obtain⟨gz,gp,⟨u,v,gq⟩,gj,gk⟩:=st;obtain⟨xs,ys,ha,hb,hl⟩:=hg;obtain⟨is,ra,pa,_⟩:=I.list ha;obtain⟨js,rb,pb,_⟩:=I.list hb;have la:=ra.length;have lb:=rb.length;have he:is.toArray[i]?=none\/js.toArray[i]?=none:=by
   rcases hl with h | h
   ·exact .inl (by simp;omega)
   ·exact .inr (by simp;omega)
  exact wpAny_pyNext_zip_end (I.ok.hd hc) D gz gp gq gj gk pa.isList pb.isList he λ g hk=>⟨rfl,I.je (fp:=[z,p,q,j,k]) (t':=s.toks) (λ c o hc e=>by
   simp only[Ho,Ie,or_false,not_or] at hc;exact hk c o hc.1 hc.2.2.1 hc.2.2.2.1 hc.2.2.2.2 e) hf⟩
 self:=λ _ _ _ _ _ st h=>Kt st.1 h
theorem GW {N a b:Nat}(ha:a<N)(hb:b<N):ZipApart (N+4:Nat) (N+2:Nat) (N+3:Nat) N (N+1:Nat) a b :=
 have D:=FY ha hb
 ⟨D.pz,D.qz,D.jz,D.kz,D.pq,D.pj,D.pk,D.qj,D.qk,D.jk,D.az,D.aq,D.aj,D.ak,D.bz,D.bq,D.bj,D.bk⟩
inductive Cc (K:Hl) (R:(It->Hp->Prop)) (vs:List V) (H1:Hp):Prop
 | mk (a b:_) (_:vs=[.ref a,.ref b]) (_:(∃xs,aT K H1 a xs)) (_:(∃ys,aT K H1 b ys)) (_:R (rO K a b) H1)
def FQ (K:Hl)(ta:TA):TI:=λ Hh H R=>ta Hh H λ vs H1=>Cc K R vs H1
theorem DX {a b:Expr} {ta:TA} {p pos tp:Pos} {elts:List Expr} {kk:Nat} (hg:Gl X "zip") (hm:X.mg "zip" = none) (ha:PA X [a,b] ta) (hs:starEach [a,b] X.env=[(false,eval a X.env),(false,eval b X.env)]:=by rfl) (hs2:starEach [b] X.env=[(false,eval b X.env)]:=by rfl) :
  PI X (.Tuple elts kk tp) (.Call (.Name "zip" p) [a,b] [] pos) (FQ X.K ta):=by
 intro pins s Hh H R I h;refine Call_ (iM I hg hm uO (PyProof.Rows.callWith_type1 (bx (ha pos pins s Hh H _ I h) λ us s1 ⟨vs,H1,I1,r1,q1⟩=>?_) (by rw[hs,hs2]) (by rw[hs2];rfl)));obtain⟨x,y,e,⟨xs,hx⟩,⟨ys,hy⟩,q⟩:=q1;subst e;cases r1 with
 | cons r rr =>
  cases rr with
  | cons r' rr =>
   cases rr;cases r;cases r';obtain⟨is,rx,px,_⟩:=I1.list hx;obtain⟨js,ry,py,_⟩:=I1.list hy;have lx:x<s1.heap.objs.size:=px.lt;have ly:y<s1.heap.objs.size:=py.lt;refine call_zip_2 px.isList py.isList λ g gz gp gq gj gk _ up=>?_
   refine Kt gz ?_;have I2:Inv X pins Hh H1 { s1 with heap:=g }:=I1.kept (t':=s1.toks) up;refine⟨_,[s1.heap.objs.size+4,s1.heap.objs.size+2,s1.heap.objs.size+3,s1.heap.objs.size,s1.heap.objs.size+1],_,rO X.K x y,H1,rfl,I2,Am x y _ _ _ _ _ ?_,⟨gz,gp,⟨_,_,gq⟩,gj,gk⟩,λ c hc=>?_,q⟩
   ·exact GW lx ly
   ·have le:s1.heap.objs.size<=c:=by
     simp only[Ho,Ie,or_false] at hc
     rcases hc with rfl | rfl | rfl | rfl | rfl
     ·exact Ii _ _
     ·exact Ii _ _
     ·exact Ii _ _
     ·exact Hn _
     ·exact Ii _ _
    exact I1.kT le (I1.bc.fresh le)
end
theorem Cd {K:Hl}{a b:Addr}{xs ys:List V}{g:TG}{tb:TS}{D:Ends}{Hh : St}{H:Hp}(h1:xs.length<=ys.length)(Pv:Nat->St->Hp->Prop)(h0:Pv 0 Hh H)(hl:∀i Hh H,i<=xs.length->Pv i Hh H->aT K H a xs/\aT K H b ys)
  (hs:∀i x y Hh H t,xs[i]?=some x->ys[i]?=some y->H t=none->Pv i Hh H->g (.ref t) Hh (upd H t (.tup [x,y])) λ σ2 H2=>tb { D with nx:=Pv (i+1),ct:=Pv (i+1),bk:=D.nx } σ2 H2) (hd:∀Hh H,Pv xs.length Hh H->D.nx Hh H) :
  ∃W:Nat->Nat->St->Hp->Prop,(∃m,W 0 m Hh H)/\∀i m Hh H,W i m Hh H ->
   ((rO K a b).stop i H/\D.nx Hh H)\/((rO K a b).go i H/\∃N:St->Hp->Prop,(∀σ' H',N σ' H'->∃m',m' < m/\W (i+1) m' σ' H')/\∀x H',(rO K a b).sf i H x H'->g x Hh H' λ σ2 H2=>tb { D with nx:=N,ct:=N,bk:=D.nx } σ2 H2):=by
 exists λ i m Hh H=>m=xs.length-i/\i<=xs.length/\Pv i Hh H,⟨xs.length,by simp,HL _,h0⟩;rintro i m Hh H ⟨rfl,hi,p⟩;obtain⟨qa,qb⟩:=hl i Hh H hi p;by_cases hlt:i<xs.length
 ·refine .inr ⟨⟨xs,ys,xs[i],ys[i]'⋯,qa,qb,by simp[hlt],by simp[show i<ys.length by omega]⟩,Pv (i+1),λ σ' H' p'=>⟨xs.length-(i+1),by omega,rfl,hlt,p'⟩,λ v H' y=>?_⟩;obtain⟨t,x,y,rfl,ht,rfl,h⟩:=y;obtain⟨e1,e2⟩:=h xs ys qa qb;exact hs i x y Hh H t e1 e2 ht p
 ·have e:i=xs.length:=by omega
  subst e;exact .inl ⟨⟨xs,ys,qa,qb,.inl (Hn _)⟩,hd Hh H p⟩
abbrev Ld:=Option Bool×Nat×(Str->Sx)
def vB:Option Bool->V
 | none=>.aZ
 | some b=>.bl b
def di (T:Str->Sx):End->List Ld
 | .stop=>[]
 | .go p=>[(none,p,T)]
 | .aR b x n p r=>[true,false].filterMap λ side=>(cW T b x n side).map λ s=>(some side,(if side=true then p else r),b8 T x s)
theorem yG {T:Str->Sx}{b:Bool}{x:Str}{n:Int}{p r i:Nat}{side:Bool}(h:([true,false]:List Bool)[i]?=some side) :
  (([true,false]:List Bool).take (i+1)).filterMap (λ side=>(cW T b x n side).map λ s=>((some side,(if side=true then p else r),b8 T x s):Ld))=(([true,false]:List Bool).take i).filterMap (λ side=>(cW T b x n side).map λ s=>((some side,(if side=true then p else r),b8 T x s):Ld))++((cW T b x n side).map λ s=>((some side,(if side=true then p else r),b8 T x s):Ld)).toList:=by
 rw[HM,h,List.filterMap_append];cases z:cW T b x n side with
 | none=>simp[z]
 | some s=>simp[z]
def Hf (m:Nat)(H:Hp)(v:V)(l:Ld):Prop:=∃q d,v=.ref q/\H q=some (.tup [vB l.1,.int (l.2.1:Nat),.ref d])/\LT H d l.2.2 m
abbrev i7 (m:Nat)(H:Hp)(vs:List V)(ls:List Ld):Prop:=Paired (Hf m H) vs ls
theorem i7.same {m:Nat}{H H':Hp}(s:ah H H'):∀{vs:List V} {ls:List Ld},i7 m H vs ls->i7 m H' vs ls
 | _,_,.nil=>.nil
 | _,_,.cons ⟨q,d,e,h1,h2⟩ t=>.cons ⟨q,d,e,s _ _ h1,h2.same s⟩ (i7.same s t)
theorem i7.put {m:Nat}{H:Hp}{l:Addr}{xs:List V}{o:HO}(hl:H l=some (.lst xs)):∀{vs:List V} {ls:List Ld},i7 m H vs ls->i7 m (upd H l o) vs ls
 | _,_,.nil=>.nil
 | _,_,.cons ⟨q,d,e,h1,h2⟩ t=>.cons ⟨q,d,e,by rw[av (bP h1 hl (by intro z;cases z))];exact h1,h2.put hl⟩ (i7.put hl t)
inductive tR  (vs:List V) (H:Hp) (Q:VK) (_:XK):Prop
 | mk (d ea:Addr) (T:Str->Sx) (e:End) (m:Nat) (_:vs=[.ref d,.ref ea]) (_:LT H d T m) (_:m<=60) (_:(∀x,iR (T x).1 (T x).2)) (_:H ea=some (.tup (bR e))) (_:∀(l:Addr) (vs:List V) (H':Hp),H' l=some (.lst vs)->i7 (m+1) H' vs (di T e)->ah H H'->Q (.ref l) H')
def cR:End->Ld->Nat
 | .stop,_=>0
 | .go r,_=>r
 | .aR _ _ _ p q,l=>if l.1=some true then p else q
theorem An {T:Str->Sx}{e:End}:(di T e).length<=2:=by
 cases e with
 | stop=>exact HL _
 | go p=>exact Ip 1
 | aR b x n p r=>exact List.length_filterMap_le _ _
theorem yH {T:Str->Sx}{b:Bool}{x:Str}{n:Int}{p r:Nat}{l:Ld}(h:l∈di T (.aR b x n p r)):∃side,l.1=some side:=by
 obtain⟨side,_,h⟩:=IS.mp h;cases z:cW T b x n side with
 | none=>rw[z] at h;cases h
 | some s=>rw[z] at h;cases h;exact⟨side,rfl⟩
theorem xH {T:Str->Sx}{e:End}:(di T e).map (·.2)=cQ T e:=by
 cases e with
 | stop=>rfl
 | go p=>rfl
 | aR b x n p r =>
  unfold di cQ gN aU;cases h1:cW T b x n true<;>cases h2:cW T b x n false<;>simp[h1,h2]
def Ce (paper:List Pp)(T:Str->Sx)(e f:End):Prop:=∀l∈di T e,Mt paper (cR f l) l.2.1 l.2.2
theorem Cf {paper:List Pp}{T:Str->Sx}{e:End}{r:Nat}(hs:e≠.stop):fm paper T e (.go r)↔((di T e).length=1/\Ce paper T e (.go r)):=by
 cases e with
 | stop=>exact absurd rfl hs
 | go p=>exact⟨λ h=>⟨rfl,λ l hl=>by rw[Hm.mp hl];exact h⟩,λ h=>h.2 _ (Hm.mpr rfl)⟩
 | aR b x n p q =>
  constructor
  ·rintro⟨ld,h1,h2⟩;rw[<-xH] at h1;obtain⟨l,hl,e⟩:=List.map_eq_singleton_iff.mp h1;rw[hl];refine⟨rfl,λ l' hl'=>?_⟩;rw[hl] at hl';rw[Hm.mp hl',e];exact h2
  ·rintro⟨h1,h2⟩;obtain⟨l,hl⟩:=J6.mp h1;exists l.2,?_
   ·rw[<-xH,hl];rfl
   ·exact h2 l (by rw[hl];exact Hm.mpr rfl)
theorem Ao {paper:List Pp}{T:Str->Sx}{b:Bool}{x:Str}{n:Int}{p q p' q':Nat}:fm paper T (.aR b x n p q) (.aR b x n p' q')↔Ce paper T (.aR b x n p q) (.aR b x n p' q'):=by
 constructor
 ·rintro⟨_,h1,h2⟩ l hl;obtain⟨side,_,h⟩:=IS.mp hl;cases z:cW T b x n side with
  | none=>rw[z] at h;cases h
  | some s =>
   rw[z] at h;cases h;cases side with
   | true=>exact h1 _ (by rw[z];rfl)
   | false=>exact h2 _ (by rw[z];rfl)
 ·intro h;refine⟨⟨rfl,rfl,rfl⟩,λ U hU=>?_,λ U hU=>?_⟩
  ·cases z:cW T b x n true with
   | none=>rw[z] at hU;cases hU
   | some s =>
    rw[z] at hU;cases hU;exact h (some true,p,b8 T x s) (IS.mpr ⟨true,by simp,by rw[z];rfl⟩)
  ·cases z:cW T b x n false with
   | none=>rw[z] at hU;cases hU
   | some s =>
    rw[z] at hU;cases hU;exact h (some false,q,b8 T x s) (IS.mpr ⟨false,by simp,by rw[z];rfl⟩)
theorem qH {paper:List Pp}{T:Str->Sx}{e f:End}(h:e=.stop\/f=.stop):fm paper T e f↔wE e=wE f:=by
 have n1:∀{b:Bool},¬(("stop" : Str)=wT b):=λ {b}=>by cases b<;>decide
 have n2:¬(("stop" : Str)=("go" : Str)):=by decide
 rcases h with rfl | rfl
 ·cases f with
  | stop=>exact⟨λ _=>rfl,λ _=>True.intro⟩
  | go q=>exact⟨λ h=>h.elim,λ h=>absurd h n2⟩
  | aR b x n p q=>exact⟨λ h=>h.elim,λ h=>absurd h n1⟩
 ·cases e with
  | stop=>exact⟨λ _=>rfl,λ _=>True.intro⟩
  | go q=>exact⟨λ h=>h.elim,λ h=>absurd h.symm n2⟩
  | aR b x n p q=>exact⟨λ h=>h.elim,λ h=>absurd h.symm n1⟩
def j0:End->List PyData
 | .stop=>[.str "stop"]
 | .go p=>[.str "go",.int (p:Nat)]
 | .aR b x n _ _=>[.str (wT b),.str x,.int n]
theorem xI {e:End}{b':Bool}{x':Str}{n':Int}{p' q':Nat}:j0 (.aR b' x' n' p' q')=j0 e↔∃p q,e=.aR b' x' n' p q:=by
 constructor
 ·intro h;cases e with
  | stop=>injection h with _ h;cases h
  | go p=>injection h with _ h;injection h with _ h;cases h
  | aR b x n p q =>
   injection h with h1 h
   injection h with h2 h
   injection h with h3 _
   injection h1 with h1
   injection h2 with h2
   injection h3 with h3
   rw[Ak h1,h2,h3];exact⟨p,q,rfl⟩
 ·rintro⟨p,q,rfl⟩;rfl
theorem vJ {H:Hp}(e:End):bp H (cm (bR e) none (some (3:Int))) (j0 e):=by
 have h:cm (bR e) none (some (3:Int))=(bR e).take 3:=by
  unfold cm;rw[show (some (3:Int))=some ((3:Nat):Int) from rfl,HT.jd,HT.kU];cases e<;>rfl
 rw[h];cases e with
 | stop=>exact .cons (.str _) .nil
 | go p=>exact .cons (.str _) (.cons (.int _) .nil)
 | aR b x n p q=>exact .cons (.str _) (.cons (.str _) (.cons (.int _) .nil))
theorem DY (p:Nat):gK (.tuple [.str "go",.int (p:Nat)]):=⟨rfl,m9 p,by show max 0 (max 0 0)+1<=7;decide,⟨_,rfl⟩⟩
inductive mi  (vs:List V) (H:Hp) (Q:VK) (_:XK):Prop
 | mk (plv qlv:V) (pa:Addr) (ps qs:List Piece) (us:List V) (paper:List Pp) (xs:List Str) (m k:Nat) (_:vs=[plv,qlv,.ref pa,.int (k:Nat)]) (_:bg H plv (eF ps)) (_:bg H qlv (eF qs)) (_:H pa=some (.tup us)) (_:cC H us paper) (_:cI xs m ps) (_:ef qs) (_:j4 qs) (_:(∀x∈xs,dM x)) (_:(∀c∈paper,cn xs c.2)) (_:xs.length<=50) (_:k<qs.length) (_:paper.length=qs.length) (_:(∀c∈paper,0<=c.1/\c.1<ps.length)) (_:∀b H',(b=true↔∀(c:Pp) (p q:Piece),paper[k]?=some c->ps[c.1.toNat]?=some p->qs[k]?=some q->p.1=q.1/\fm paper (aW c.2 p.1) p.2 q.2)->ah H H'->Q (.bl b) H')
inductive vK  (vs:List V) (H:Hp) (Q:VK) (_:XK):Prop
 | mk (plv qlv:V) (pa:Addr) (ps qs:List Piece) (us:List V) (paper:List Pp) (xs:List Str) (m:Nat) (_:vs=[plv,qlv,.ref pa]) (_:bg H plv (eF ps)) (_:bg H qlv (eF qs)) (_:H pa=some (.tup us)) (_:cC H us paper) (_:cI xs m ps) (_:ef qs) (_:j4 qs) (_:(∀x∈xs,dM x)) (_:(∀c∈paper,cn xs c.2)) (_:xs.length<=50) (_:m<=12) (_:0<ps.length) (_:ps.length<=400) (_:0<paper.length) (_:paper.length<=401) (_:∀H',ah H H'->Q (.bl true) H')
theorem Fi {qs:List Piece}{f:End}{ds:List cH}{l:Ld}(h:ef qs)(hm:(ds,f)∈qs)(hf:f≠.stop):cR f l<qs.length:=by
 have hw:∀w∈aU f,w<qs.length:=λ w hw=>nR h hm hw
 cases f with
 | stop=>exact absurd rfl hf
 | go r=>exact hw r (Hm.mpr rfl)
 | aR b x n p q =>
  show (if l.1=some true then p else q)<_;by_cases z:l.1=some true
  ·rw[if_pos z];exact hw p (Hv ..)
  ·rw[if_neg z];exact hw q (Hx _ (Hv ..))
structure iB (H:Hp) (ov:V) (pa:Addr) (qs:List Piece) (paper:List Pp) (xs:List Str):Prop where
 ro:bg H ov (eF qs)
 pp:∃us,H pa=some (.tup us)/\cC H us paper
 tok:∀c∈paper,cn xs c.2
 oJ:ef qs
 lay:j4 qs
 bV:∀p∈qs,p.1.length<=12
 q0:0<qs.length
 lt:qs.length<=400
 p0:0<paper.length
 oM:paper.length<=400
theorem iB.aM {H H':Hp}{ov:V}{pa:Addr}{qs:List Piece}{paper:List Pp}{xs:List Str}(h:iB H ov pa qs paper xs)(k:∀p zs,H p=some (.tup zs)->H' p=some (.tup zs)):iB H' ov pa qs paper xs:=by
 obtain⟨us,h1,h2⟩:=h.pp;exact⟨h.ro.aM k (bW qs),⟨us,k _ _ h1,h2.aM k⟩,h.tok,h.oJ,h.lay,h.bV,h.q0,h.lt,h.p0,h.oM⟩
theorem iB.same {H H':Hp}{ov:V}{pa:Addr}{qs:List Piece}{paper:List Pp}{xs:List Str}(h:iB H ov pa qs paper xs)(s:ah H H'):iB H' ov pa qs paper xs:=h.aM λ p zs e=>s _ _ e
theorem gx {n:Nat}:(eW n).length=n:=by unfold eW;rw[Hk,Js]
end L2
namespace My
open PySem PySem.Spec PyProof.Rows L2
def top (i:Nat):Stmt:=PySem.Challenge.pw_ledpast_k15_papers_by_hand.main.body.getD i (.Pass ⟨0,0,0,0⟩)
structure Bl (mg:Ch):Prop where
 len:mg "len" = none
 zip:mg "zip" = none
 tuple:mg "tuple" = none
 sorted:mg "sorted" = none
 set:mg "set" = none
 dict:mg "dict" = none
 min:mg "min" = none
 max:mg "max" = none
 range:mg "range" = none
 list:mg "list" = none
 int:mg "int" = none
 all:mg "all" = none
 isinstance:mg "isinstance" = none
 bool:mg "bool" = none
abbrev ig:Stmt:=top 3
theorem pD:aV ["thing", "kinds", "wanted"] ["thing", "kinds", "wanted"] (aI ig):=⟨rfl,rfl,rfl,by decide,rfl,by decide,by decide⟩
abbrev nc:Stmt:=top 5
theorem yI:aV ["end"] ["end"] (aI nc):=⟨rfl,rfl,rfl,by decide,rfl,by decide,by decide⟩
abbrev iC:Stmt:=top 6
theorem qI:aV ["end"] ["end"] (aI iC):=⟨rfl,rfl,rfl,by decide,rfl,by decide,by decide⟩
abbrev lJ:Stmt:=top 4
theorem gH:aV ["plan", "names", "deeds", "end", "deed"] ["plan"] (aI lJ):=⟨rfl,rfl,rfl,by decide,rfl,by decide,by decide⟩
abbrev ng:Stmt:=top 11
theorem lK:aV ["number", "stretch", "low", "high"] ["number", "stretch"] (aI ng):=⟨rfl,rfl,rfl,by decide,rfl,by decide,by decide⟩
abbrev jN:Stmt:=top 13
theorem gJ:aV ["stretch", "number", "low", "high", "top"] ["stretch", "number"] (aI jN):=⟨rfl,rfl,rfl,by decide,rfl,by decide,by decide⟩
abbrev j6:Stmt:=top 14
theorem ij:aV ["stretch", "number", "low", "high", "bottom"] ["stretch", "number"] (aI j6):=⟨rfl,rfl,rfl,by decide,rfl,by decide,by decide⟩
abbrev nh:Stmt:=top 15
theorem yJ:aV ["stretch", "number"] ["stretch", "number"] (aI nh):=⟨rfl,rfl,rfl,by decide,rfl,by decide,by decide⟩
abbrev i0:Stmt:=top 16
theorem iD:aV ["stretch", "number", "low", "high"] ["stretch", "number"] (aI i0):=⟨rfl,rfl,rfl,by decide,rfl,by decide,by decide⟩
abbrev ni:Stmt:=top 17
theorem yK:aV ["stretch", "word", "number", "side"] ["stretch", "word", "number", "side"] (aI ni):=⟨rfl,rfl,rfl,by decide,rfl,by decide,by decide⟩
abbrev j7:Stmt:=top 12
theorem gf:aV ["one", "other", "low", "high", "low_fits", "high_fits"] ["one", "other"] (aI j7):=⟨rfl,rfl,rfl,by decide,rfl,by decide,by decide⟩
abbrev lL:Stmt:=top 20
theorem wo:aV ["stretches"] ["stretches"] (aI lL):=⟨rfl,rfl,rfl,by decide,rfl,by decide,by decide⟩
abbrev rP:Stmt:=top 21
theorem Cg:aV ["facts", "name"] ["facts", "name"] (aI rP):=⟨rfl,rfl,rfl,by decide,rfl,by decide,by decide⟩
abbrev jO:Stmt:=top 22
theorem mj:aV ["facts", "name", "stretch", "stretches"] ["facts", "name", "stretch"] (aI jO):=⟨rfl,rfl,rfl,by decide,rfl,by decide,by decide⟩
abbrev rQ:Stmt:=top 23
theorem Ci:aV ["facts", "worths"] ["facts", "worths"] (aI rQ):=⟨rfl,rfl,rfl,by decide,rfl,by decide,by decide⟩
abbrev pE:Stmt:=top 24
theorem tS:aV ["facts", "others", "stretches"] ["facts", "others"] (aI pE):=⟨rfl,rfl,rfl,by decide,rfl,by decide,by decide⟩
abbrev rR:Stmt:=top 25
theorem pF:aV ["stretch", "number", "low", "high"] ["stretch", "number"] (aI rR):=⟨rfl,rfl,rfl,by decide,rfl,by decide,by decide⟩
abbrev gP:Stmt:=top 26
theorem i8:aV ["stretches", "deed", "word", "name"] ["stretches", "deed"] (aI gP):=⟨rfl,rfl,rfl,by decide,rfl,by decide,by decide⟩
abbrev pG:Stmt:=top 27
theorem nj:aV ["facts", "deeds", "stretches", "deed"] ["facts", "deeds"] (aI pG):=⟨rfl,rfl,rfl,by decide,rfl,by decide,by decide⟩
abbrev iE:Stmt:=top 28
theorem dD:aV ["facts", "end", "ways", "word", "name", "number", "stretch", "parts"] ["facts", "end"] (aI iE):=⟨rfl,rfl,rfl,by decide,rfl,by decide,by decide⟩
abbrev rS:Stmt:=top 29
theorem vL:aV ["facts", "end", "beyond"] ["facts", "end"] (aI rS):=⟨rfl,rfl,rfl,by decide,rfl,by decide,by decide⟩
abbrev rT:Stmt:=top 30
theorem Cj:aV ["plan"] ["plan"] (aI rT):=⟨rfl,rfl,rfl,by decide,rfl,by decide,by decide⟩
abbrev iF:Stmt:=inClass (top 7) 0
theorem qJ:aV ["self", "first"] ["self", "first"] (aI iF):=⟨rfl,rfl,rfl,by decide,rfl,by decide,by decide⟩
abbrev iG:Stmt:=inClass (top 7) 1
theorem qK:aV ["self", "thing"] ["self", "thing"] (aI iG):=⟨rfl,rfl,rfl,by decide,rfl,by decide,by decide⟩
abbrev nq:Stmt:=top 8
theorem ik:aV ["plan", "found", "waiting", "at", "way"] ["plan"] (aI nq):=⟨rfl,rfl,rfl,by decide,rfl,by decide,by decide⟩
abbrev rV:Stmt:=top 9
theorem lM:aV ["plan", "found", "at", "way"] ["plan"] (aI rV):=⟨rfl,rfl,rfl,by decide,rfl,by decide,by decide⟩
abbrev lN:Stmt:=top 42
theorem oO:aV ["lead", "tops", "places", "most", "piece"] ["lead", "tops", "places", "most"] (aI lN):=⟨rfl,rfl,rfl,by decide,rfl,by decide,by decide⟩
abbrev pH:Stmt:=top 43
theorem Ap:aV ["end", "ways"] ["end", "ways"] (aI pH):=⟨rfl,rfl,rfl,by decide,rfl,by decide,by decide⟩
abbrev lO:Stmt:=top 44
theorem du:aV ["plan", "most", "tops", "copies", "pieces", "piece", "facts", "deeds", "end", "ahead", "ways"] ["plan", "most"] (aI lO):=⟨rfl,rfl,rfl,by decide,rfl,by decide,by decide⟩
abbrev rW:Stmt:=top 32
theorem Ck:aV ["one", "lead"] ["one", "lead"] (aI rW):=⟨rfl,rfl,rfl,by decide,rfl,by decide,by decide⟩
abbrev gQ:Stmt:=top 33
theorem fo:aV ["facts", "end", "other_end", "paper", "way", "there", "at"] ["facts", "end", "other_end", "paper"] (aI gQ):=⟨rfl,rfl,rfl,by decide,rfl,by decide,by decide⟩
abbrev j8:Stmt:=top 34
theorem nu:aV ["facts", "end", "other_end", "paper", "ahead"] ["facts", "end", "other_end", "paper"] (aI j8):=⟨rfl,rfl,rfl,by decide,rfl,by decide,by decide⟩
abbrev i5:Stmt:=top 35
theorem fB:aV ["one", "piece", "other_piece", "paper", "deeds", "end", "other_deeds", "other_end"] ["one", "piece", "other_piece", "paper"] (aI i5):=⟨rfl,rfl,rfl,by decide,rfl,by decide,by decide⟩
abbrev i6:Stmt:=top 36
theorem rX:aV ["plan", "other", "paper"] ["plan", "other", "paper"] (aI i6):=⟨rfl,rfl,rfl,by decide,rfl,by decide,by decide⟩
abbrev nv:Stmt:=top 46
theorem lP:aV ["script", "k", "cell"] ["script", "k"] (aI nv):=⟨rfl,rfl,rfl,by decide,rfl,by decide,by decide⟩
abbrev lQ:Stmt:=top 47
theorem oP:aV ["bag", "many", "found"] ["bag", "many"] (aI lQ):=⟨rfl,rfl,rfl,by decide,rfl,by decide,by decide⟩
abbrev j9:Stmt:=top 48
theorem er:aV ["bag", "letters", "many", "base", "at", "names", "k", "name"] ["bag"] (aI j9):=⟨rfl,rfl,rfl,by decide,rfl,by decide,by decide⟩
abbrev jP:Stmt:=top 49
theorem uf:aV ["bag"] ["bag"] (aI jP):=⟨rfl,rfl,rfl,by decide,rfl,by decide,by decide⟩
abbrev lR:Stmt:=top 50
theorem kd:aV ["bag", "names", "word", "name"] ["bag", "names"] (aI lR):=⟨rfl,rfl,rfl,by decide,rfl,by decide,by decide⟩
abbrev ny:Stmt:=top 51
theorem jb:aV ["bag", "names", "count", "way", "word", "name"] ["bag", "names", "count"] (aI ny):=⟨rfl,rfl,rfl,by decide,rfl,by decide,by decide⟩
abbrev lS:Stmt:=top 52
theorem fN:aV ["bag", "count", "most", "names", "pieces", "k", "many", "end"] ["bag", "count", "most"] (aI lS):=⟨rfl,rfl,rfl,by decide,rfl,by decide,by decide⟩
abbrev kh:Stmt:=top 53
theorem vM:aV ["bag", "most"] ["bag", "most"] (aI kh):=⟨rfl,rfl,rfl,by decide,rfl,by decide,by decide⟩
abbrev lT:Stmt:=top 54
theorem fi:aV ["stretch", "word", "number", "side", "low", "high"] ["stretch", "word", "number", "side"] (aI lT):=⟨rfl,rfl,rfl,by decide,rfl,by decide,by decide⟩
abbrev lU:Stmt:=top 55
theorem ki:aV ["facts", "name", "stretch", "more", "other"] ["facts", "name", "stretch"] (aI lU):=⟨rfl,rfl,rfl,by decide,rfl,by decide,by decide⟩
abbrev lV:Stmt:=top 58
theorem wq:aV ["facts"] ["facts"] (aI lV):=⟨rfl,rfl,rfl,by decide,rfl,by decide,by decide⟩
abbrev jQ:Stmt:=top 56
theorem cG:aV ["facts", "deeds", "deed", "stretch", "low", "high"] ["facts", "deeds"] (aI jQ):=⟨rfl,rfl,rfl,by decide,rfl,by decide,by decide⟩
abbrev jR:Stmt:=top 59
theorem fe:aV ["one", "other", "name", "low", "high", "less", "more"] ["one", "other"] (aI jR):=⟨rfl,rfl,rfl,by decide,rfl,by decide,by decide⟩
abbrev iH:Stmt:=top 62
theorem fR:aV ["facts", "table", "name", "stretch"] ["facts"] (aI iH):=⟨rfl,rfl,rfl,by decide,rfl,by decide,by decide⟩
abbrev gg:Stmt:=top 63
theorem bF:aV ["bag", "facts", "table", "names", "name", "low", "high", "way"] ["bag", "facts"] (aI gg):=⟨rfl,rfl,rfl,by decide,rfl,by decide,by decide⟩
abbrev gR:Stmt:=top 65
theorem gB:aV ["bag", "end", "count", "way", "at"] ["bag", "end", "count"] (aI gR):=⟨rfl,rfl,rfl,by decide,rfl,by decide,by decide⟩
abbrev gh:Stmt:=top 66
theorem bZ:aV ["bag", "other", "some", "at", "deeds", "end", "way", "place"] ["bag", "other"] (aI gh):=⟨rfl,rfl,rfl,by decide,rfl,by decide,by decide⟩
abbrev gi:Stmt:=top 64
theorem cZ:aV ["bag", "paper", "count", "some", "at", "piece", "facts", "way"] ["bag", "paper", "count"] (aI gi):=⟨rfl,rfl,rfl,by decide,rfl,by decide,by decide⟩
abbrev kj:Stmt:=top 57
theorem il:aV ["facts", "end", "found", "side", "part"] ["facts", "end"] (aI kj):=⟨rfl,rfl,rfl,by decide,rfl,by decide,by decide⟩
abbrev gC:Stmt:=top 60
theorem bT:aV ["plan", "other", "paper", "number", "piece", "facts", "deeds", "end", "mine", "there", "found", "places", "place", "lead"] ["plan", "other", "paper", "number"] (aI gC):=⟨rfl,rfl,rfl,by decide,rfl,by decide,by decide⟩
abbrev gF:Stmt:=top 61
theorem dq:aV ["plan", "other", "paper", "piece", "facts", "name", "stretch", "number"] ["plan", "other", "paper"] (aI gF):=⟨rfl,rfl,rfl,by decide,rfl,by decide,by decide⟩
abbrev km:Stmt:=top 67
theorem nz:aV ["plan", "other", "paper", "found"] ["plan", "other", "paper"] (aI km):=⟨rfl,rfl,rfl,by decide,rfl,by decide,by decide⟩
abbrev nT:Stmt:=top 68
theorem eB:aV ["script", "bag", "plan", "made", "plain", "great", "other", "paper", "k", "way"] ["script"] (aI nT):=⟨rfl,rfl,rfl,by decide,rfl,by decide,by decide⟩
section
variable {P:Program}{w:World}{K:Hl}{mg:Ch}{base:Heap}
theorem pI {f:Addr} {fd:FuncData} (F:b4 K "parts_of_kind" "parts_of_kind" ig f fd) (Z:Bl mg)  : bA P w K mg base bY 1 f fd ["thing", "kinds", "wanted"] (rn K):=by
 refine F.ok (k:=0) pD (λ vs H Q E h=>?_) (λ cdv A outer s H vs Q E hr h=>?_)
 ·obtain⟨t,s,v0,xs,ks,w,rfl,_⟩:=h;rfl
 ·obtain⟨t,s,v0,xs,ks,w,rfl,ht,hs,hl,q⟩:=h;exists _,(ar (aF (dA ["part", "kind"] ["wanted"] [2] rfl (uP rfl Z.zip (aa (fV gX (pv 0) (gW ao) gU) (aa (pv 1) ae))) rfl ⋯ ⋯ ⋯ ⟨⟨rfl,.inl rfl,rfl⟩,True.intro⟩ (λ _ _ _ _=>(kA (K:=K) (n:=2) rfl (bX (n:=2) rfl (aJ (ay (i:=0) (show ((["part", "kind"]:List Str)++(["wanted"]:List Str)).Nodup by decide) rfl (Hj rfl) (hf:=Hz rfl)) (aJ (ay (i:=1) (show ((["part", "kind"]:List Str)++(["wanted"]:List Str)).Nodup by decide) rfl (Hj rfl) (hf:=Hz rfl)) bN))))) (λ _ _ _ _=>(qW (aB bC (pv 1) (pv 2) (aG _)))) (λ _ _ _ _=>(pv 0)))));refine⟨_,rfl,_,rfl,t,_,rfl,au.of ht,λ hw=>?_,λ _ p np=>?_⟩
  ·exfalso;obtain⟨h1,_⟩:=hw;simp[HT.bU] at h1
  ·have ec:cm (v0::xs) (some 1) none=xs:=by simp[cm,HT.bU]
   rw[ec];have sp:=ah.new (o:=.tup xs) np;refine⟨_,rfl,p,s,rfl,⟨_,au.of af⟩,⟨_,hs.same sp⟩,λ acc na=>?_⟩;refine uQ (K:=K) (a:=p) (b:=s) (xs:=xs) (ys:=ks.map V.str) (λ i zs Hi H'=>∃(c1 c2:Option V),Hi=[c1,c2,some (.str w)]/\zs=jW w xs ks i/\H' acc=some (.lst zs)/\H' p=some (.tup xs)/\ah H H') ?_ ?_ ?_ ?_
   ·exact⟨none,none,rfl,rfl,af,ah.new na _ _ af,sp.trans (ah.new na)⟩
   ·rintro i zs Hi H4 hi ⟨c1,c2,rfl,rfl,ha,hp4,s4⟩;exact⟨au.of hp4,hs.same s4,ha,yg (by have:=zF (w:=w) (xs:=xs) (ks:=ks) (i:=i);omega)⟩
   ·rintro i x y zs Hi H4 u hx hy hu ⟨c1,c2,rfl,rfl,ha,hp4,s4⟩;obtain⟨k,rfl,hk⟩:∃k,y=V.str k/\ks[i]?=some k:=by
     rw[HC] at hy;cases e:ks[i]? with
     | none=>rw[e] at hy;cases hy
     | some k=>rw[e] at hy;exact⟨k,(HB.inj hy).symm,rfl⟩
    have su:=ah.new (o:=.tup [x,.str k]) hu;exists u,_,rfl,au.of af,rfl,_,_,rfl,_,_,rfl,rfl;exists _,rfl,_,rfl,rfl,_,rfl;have hn:=yj (w:=w) hx hk;by_cases hkw:k=w
    ·rw[if_pos hkw] at hn;refine bJ (decide_eq_true (congrArg V.str hkw)) ?_;exists _,rfl,su _ _ ha,_,_,rfl,hn.symm,af,?_
     ·rw[av (bP hp4 ha (by intro z;cases z))];exact su _ _ hp4
     ·exact (s4.trans su).put (sp.free na)
    ·rw[if_neg hkw,IX] at hn;refine aY (decide_eq_false λ z=>hkw (V.str.inj z)) ?_;exact⟨_,_,rfl,hn.symm,su _ _ ha,su _ _ hp4,s4.trans su⟩
   ·rintro zs Hi H4 ⟨c1,c2,rfl,rfl,ha,hp4,s4⟩;rw[zE] at ha;exact q acc H4 ha s4
theorem yL {f:Addr} {fd:FuncData} (F:b4 K "ways_on" "ways_on" nc f fd) (Z:Bl mg) {aE s0 s1 s2 s3:Addr} (GE:va K mg aE s0 s1 s2 s3) (bd:Own P w K mg base "parts_of_kind" 1 ["thing", "kinds", "wanted"] (rn K)):bA P w K mg base bY 3 f fd ["end"] jC:=by
 refine F.ok (k:=2) yI (λ vs H Q E h=>?_) (λ cdv A outer s H vs Q E hr h=>?_)
 ·obtain⟨ea,e,rfl,_⟩:=h;rfl
 ·obtain⟨ea,e,rfl,he,q⟩:=h;exists _,(ar (aF (bw bL rfl Z.tuple cL (aa (aw bd (hr.mono ⋯) rfl (aa (pv 0) (aa (rm GE.tab rfl (aH aL (pv 0) ao (λ _ _=>rfl)) (λ _ _=>rfl)) (aa bG ae)))) ae))));obtain⟨xs,ev,hl,hp⟩:=zG e;rw[ev] at he;obtain⟨s,hs,ks⟩:=GE.at_ e;refine⟨_,rfl,_,rfl,ea,_,0,_,rfl,rfl,au.of he,cg,_,s,rfl,hs,ea,s,_,xs,kE e, "piece",rfl,he,.inr ks,hl,λ l H1 hl1 s1=>?_⟩;rw[hp] at hl1;exact⟨l,_,rfl,.inl ⟨aT.of hl1,λ t ht=>q t _ af (s1.trans (ah.new ht))⟩⟩
theorem qL {f:Addr} {fd:FuncData} (F:b4 K "without_ways" "without_ways" iC f fd) (Z:Bl mg) (ad:Own P w K mg base "ways_on" 3 ["end"] jC):bA P w K mg base bY 4 f fd ["end"] mV:=by
 refine F.ok (k:=3) qI (λ vs H Q E h=>?_) (λ cdv A outer s H vs Q E hr h=>?_)
 ·obtain⟨ea,e,rfl,_⟩:=h;rfl
 ·obtain⟨ea,e,rfl,he,q⟩:=h;exists _,(ar (aF (fV gX (pv 0) gU (gW (bh eM (aP aO rfl Z.len bM (aa (pv 0) ae)) (aP aO rfl Z.len bM (aa (aw ad (hr.mono ⋯) rfl (aa (pv 0) ae)) ae)))))));refine⟨_,rfl,_,rfl,ea,_,rfl,.inr (au.of he),_,rfl,ea,e,rfl,he,λ t H1 ht s1=>⟨t,_,rfl,.inr (au.of ht),_,_,rfl,rfl,?_⟩⟩;have he1:=s1 _ _ he;have el:((bR e).length:Int)-(((aU e).map λ k=>V.int (k:Nat)).length:Int)=((jY e).length:Nat):=by cases e<;>rfl
  have ec:cm (bR e) none (some ((jY e).length:Nat))=jY e:=by
   unfold cm;rw[HT.kU,HT.jd];cases e<;>rfl
  refine⟨_,congrArg V.int el,ea,_,rfl,au.of he1,λ hw=>?_,λ _ p hp=>?_⟩
  ·unfold cm at ec;rw[hw.1,hw.2] at ec;refine q ea H1 ?_ s1;rw[he1,<-ec];simp
  ·rw[ec];exact q p _ af (s1.trans (ah.new hp))
theorem wu {f:Addr} {fd:FuncData} (F:b4 K "names_of" "names_of" lJ f fd) (Z:Bl mg) {aD d0 d1 d2 d3 d4:Addr} (GD:uw K mg aD d0 d1 d2 d3 d4) {aE s0 s1 s2 s3:Addr} (GE:va K mg aE s0 s1 s2 s3) (bd:Own P w K mg base "parts_of_kind" 1 ["thing", "kinds", "wanted"] (rn K)):bA P w K mg base bY 3 f fd ["plan"] sR:=by
 refine F.ok (k:=2) gH (λ vs H Q E h=>?_) (λ cdv A outer s H vs Q E hr h=>?_)
 ·obtain⟨plv,ps,xs,m,rfl,_⟩:=h;rfl
 ·obtain⟨plv,ps,xs,m,rfl,hp,pok,hx64,hal,q⟩:=h;refine⟨_,(ai (aN (i:=1) gH.nd rfl (Hj rfl) (cU ae))
   (ai (dJ PassesOwn.never rfl (d5 (pv 0)) (bX rfl (aJ (ay (i:=2) gH.nd rfl (Hj rfl)) (aJ (ay (i:=3) gH.nd rfl (Hj rfl)) bN)))
   (ai (dJ PassesOwn.never rfl (d5 (pv 2)) (ay (i:=4) gH.nd rfl (Hj rfl))
   (ar (eD (gI PySem.F.plainAttrs_list PySem.F.slot_list_extend PySem.F.type_list_extend sF (pv 1) (aa (aw bd (hr.mono ⋯) rfl (aa (pv 4) (aa (rm GD.tab rfl (aH aL (pv 4) ao (λ _ _=>rfl)) (λ _ _=>rfl)) (aa bG ae)))) ae)))))
   (ar (eD (gI PySem.F.plainAttrs_list PySem.F.slot_list_extend PySem.F.type_list_extend sF (pv 1) (aa (aw bd (hr.mono ⋯) rfl (aa (pv 3) (aa (rm GE.tab rfl (aH aL (pv 3) ao (λ _ _=>rfl)) (λ _ _=>rfl)) (aa bG ae)))) ae))))))
   (ar (aF (bw bL rfl Z.tuple cL (aa (aP (tV rfl) rfl Z.sorted gY (aa (bw (zS rfl) rfl Z.set zQ (aa (pv 1) ae)) ae)) ae)))))),?_⟩
  obtain⟨pp,vs,rfl,e1,r⟩:=bg.bQ hp;have hl:=r.len;refine⟨(by show 0<=sizeLine;decide),λ nm nn=>?_⟩;have s0:=ah.new (o:=.lst []) nn;have big:∀(i:Nat) (ys:List Str),ys.length<=4000->(ys.map V.str).length<=sizeLine:=λ i ys h=>by rw[Hk];exact Hu h ⋯
  refine⟨_,rfl,pp,rfl,⟨_,au.of (s0 _ _ e1)⟩,fM (K:=K) (a:=pp) (xs:=vs) (λ i Hh H'=>∃(u1 u2 u3:Option V),Hh=[some (.ref pp),some (.ref nm),u1,u2,u3]/\H' nm=some (.lst ((b6 (ps.take i)).map V.str))/\ah H H') ?_ ?_ ?_ ?_⟩
  ·exact⟨_,_,_,rfl,af,s0⟩
  ·rintro i Hh H1 hi ⟨u1,u2,u3,rfl,h1,s1⟩;exact au.of (s1 _ _ e1)
  ·rintro i x Hh H1 hi ⟨u1,u2,u3,rfl,h1,s1⟩;have hlt:i<ps.length:=by
    have:=(HD.mp hi).1;rw[hl,Hk] at this;exact this
   have hpi:ps[i]?=some ps[i]:=by simp[hlt]
   generalize ps[i]=pe at hpi;obtain⟨ds,e⟩:=pe;have hnext:=sQ (f:=pNames) hpi;have hsz:(b6 (ps.take (i+1))).length<=4000:=Hu (lZ (f:=pNames) (i+1)) hal;have hsz':(b6 (ps.take i)).length+((ds.flatMap eO).length+(jD e).length)<=4000:=by
    have z:=congrArg Iz hnext;unfold b6 at hsz ⊢;rw[z] at hsz;simp only[Ht,pNames] at hsz;omega
   obtain⟨p',xs',pc,da,ea,ws,ep,e1',el',hx',e2,e3,r3,e4⟩:=fE hp hpi;cases ep;rw[e1] at e1';cases e1';rw[hi] at hx';cases hx';exists pc,_,rfl,au.of (s1 _ _ e2),rfl,_,_,rfl,_,_,rfl,rfl;refine⟨_,rfl,da,rfl,⟨_,au.of (s1 _ _ e3)⟩,fM (K:=K) (a:=da) (xs:=ws) (λ j Hh H'=>∃(u3:Option V),Hh=[some (.ref pp),some (.ref nm),some (.ref da),some (.ref ea),u3]/\H' nm=some (.lst ((b6 (ps.take i)++(ds.take j).flatMap eO).map V.str))/\ah H H') ?_ ?_ ?_ ?_⟩
   ·exact⟨_,rfl,by simpa using h1,s1⟩
   ·rintro j Hh H2 hj ⟨u3',rfl,h2,s2⟩;exact au.of (s2 _ _ e3)
   ·rintro j y Hh H2 hj ⟨u3',rfl,h2,s2⟩;have hjl:j<ds.length:=by
     have:=(HD.mp hj).1;rw[r3.len,Hk] at this;exact this
    have hdj:ds[j]?=some ds[j]:=by simp[hjl]
    generalize ds[j]=dd at hdj;obtain⟨v,hv,rd⟩:=r3.get (i:=j) (d:=bI dd) (by rw[HC,hdj];rfl);rw[hj] at hv;cases hv;obtain⟨dp,rfl,hdp⟩:=ix rd;have hdp2:=s2 _ _ hdp;obtain⟨zs,ez,hzl,hpk⟩:=yr dd;rw[ez] at hdp2;obtain⟨s,hs,ks⟩:=GD.at_ dd;have hnj:=sQ (f:=eO) hdj;have hsj:((ds.take (j+1)).flatMap eO).length<=(ds.flatMap eO).length:=lZ (f:=eO) (j+1);refine cb ?_;refine⟨_,rfl,.inl ⟨rfl,_,aT.of h2⟩,_,rfl,_,rfl,dp,_,0,_,rfl,rfl,au.of hdp2,cg,_,s,rfl,hs,dp,s,_,zs,kD dd, "name",rfl,hdp2,.inr ks,hzl,λ l H3 hl3 s3=>?_⟩;rw[hpk] at hl3;have h3:=s3 _ _ h2;exists nm,l,_,_,rfl,rfl,h3,hl3,?_
    ·rw[Hk,Hk,Ht];rw[hnj,Ht] at hsj;exact Hu (show _<=4000 by omega) ⋯
    ·refine⟨_,rfl,?_,(s2.trans s3).put nn⟩;rw[af,hnj,<-Iq];simp only[HA]
   ·rintro Hh H2 ⟨u3',rfl,h2,s2⟩;rw[show ws.length=ds.length by rw[r3.len,Hk],HW] at h2;have e42:=s2 _ _ e4;obtain⟨zs,ez,hzl,hpk⟩:=yt e;rw[ez] at e42;obtain⟨s,hs,ks⟩:=GE.at_ e;refine⟨_,rfl,.inl ⟨rfl,_,aT.of h2⟩,_,rfl,_,rfl,ea,_,0,_,rfl,rfl,au.of e42,cg,_,s,rfl,hs,ea,s,_,zs,kE e, "name",rfl,e42,.inr ks,hzl,λ l H3 hl3 s3=>?_⟩;rw[hpk] at hl3;have h3:=s3 _ _ h2;exists nm,l,_,_,rfl,rfl,h3,hl3,?_
    ·rw[Hk,Hk,Ht];exact Hu (show _<=4000 by omega) ⋯
    ·refine⟨_,_,_,rfl,?_,(s2.trans s3).put nn⟩;rw[af,<-HA];unfold b6 at hnext ⊢;rw[hnext];simp only[pNames,Iq]
  ·rintro Hh H1 ⟨u1,u2,u3,rfl,h1,s1⟩;rw[show vs.length=ps.length by rw[hl,Hk],HW] at h1;have hk:aT K H1 nm (((b6 ps).map (Sum.inr:Str->Key)).map kV):=by rw[DD];exact aT.of h1
   refine⟨_,rfl,nm,(b6 ps).map Sum.inr,rfl,hk,(by rw[Hk];show _+1<4096;omega),λ sa hsa=>?_⟩;have hf:=BD pok;refine⟨sa,LS.eG (b6 ps),rfl,(by rw[af,yu]),⋯,λ l ss hperm hsort hn=>?_⟩;have s2:=ah.new (o:=cV P w sa (LS.eG ((b6 ps).map (Sum.inr:Str->Key)))) hsa;refine⟨l,_,rfl,.inl ⟨aT.of af,λ t ht=>?_⟩⟩;exact q t ss _ af hperm hsort (by rw[hperm.length_eq];omega) (((s1.trans s2).trans (ah.new hn)).trans (ah.new ht))
theorem yM {f:Addr} {fd:FuncData} (F:b4 K "lies_in" "lies_in" ng f fd) (Z:Bl mg)  : bA P w K mg base bY 1 f fd ["number", "stretch"] (rH K):=by
 refine F.ok (k:=0) lK (λ vs H Q E h=>?_) (λ cdv A outer s H vs Q E hr h=>?_)
 ·obtain⟨n,q,lo,hi,rfl,_⟩:=h;rfl
 ·obtain⟨n,q,lo,hi,rfl,hq,k⟩:=h;refine⟨_,(ai (cA (pv 1) (bX rfl (aJ (ay (i:=2) lK.nd rfl (Hj rfl)) (aJ (ay (i:=3) lK.nd rfl (Hj rfl)) bN))))
   (ar (aF (hJ (nF (iN (fw (pv 2))) (fg (dP nG (pv 2) (pv 0) (aG _)))) (fg (nF (iN (fw (pv 3))) (fg (dP nG (pv 0) (pv 3) (aG _))))))))),?_⟩
  exists _,rfl,q,_,rfl,hq,rfl,_,_,rfl,_,_,rfl,rfl;cases lo with
  | none =>
   refine⟨_,rfl,_,rfl,bf ⟨_,rfl,bf ?_⟩⟩;cases hi with
   | none=>exact⟨_,rfl,_,rfl,bf k⟩
   | some b =>
    refine⟨_,rfl,_,rfl,br ⟨_,rfl,_,rfl,_,_,rfl,rfl,?_⟩⟩;simpa only [cN,Ju] using k
  | some a =>
   refine⟨_,rfl,_,rfl,br ⟨_,rfl,_,rfl,_,_,rfl,rfl,_,rfl,?_⟩⟩;cases hx:decide (a<=n) with
   | false=>exact br (by have k':=k;simp only[cN,hx,Jz] at k';exact k')
   | true =>
    refine bf ?_;cases hi with
    | none=>exact⟨_,rfl,_,rfl,bf (by have k':=k;simp only[cN,hx,Ju] at k';exact k')⟩
    | some b =>
     refine⟨_,rfl,_,rfl,br ⟨_,rfl,_,rfl,_,_,rfl,rfl,?_⟩⟩;have k':=k;simp only[cN,hx,Ju] at k';exact k'
theorem ug {f:Addr} {fd:FuncData} (F:b4 K "part_below" "part_below" jN f fd) (Z:Bl mg)  : bA P w K mg base bY 1 f fd ["stretch", "number"] (mW K gG):=by
 refine F.ok (k:=0) gJ (λ vs H Q E h=>?_) (λ cdv A outer s H vs Q E hr h=>?_)
 ·obtain⟨p,n,lo,hi,rfl,_⟩:=h;rfl
 ·obtain⟨p,n,lo,hi,rfl,hp,q⟩:=h;refine⟨_,(ai (cA (pv 0) (bX rfl (aJ (ay (i:=2) gJ.nd rfl (Hj rfl)) (aJ (ay (i:=3) gJ.nd rfl (Hj rfl)) bN))))
   (ai (aN (i:=4) gJ.nd rfl (Hj rfl) (fT (cO (fw (pv 3))) (bh eM (pv 1) ao) (aP (mB rfl) rfl Z.min uN (aa (pv 3) (aa (bh eM (pv 1) ao) ae)))))
   (ai (aS (PW.pt (df (cO (cX (pv 2))) (cS (aB iJ (pv 2) (pv 4) (aG _)))))
   (ar (aF cD))
   aK)
   (ar (aF (aX (aa (pv 2) (aa (pv 4) ae)))))))),?_⟩
  exists _,rfl,p,_,rfl,hp,rfl,_,_,rfl,_,_,rfl,rfl;cases hi with
  | none =>
   refine⟨_,rfl,_,rfl,bf ⟨_,rfl,_,_,rfl,rfl,?_⟩⟩;cases lo with
   | none =>
    refine⟨_,rfl,_,rfl,br (br ⟨_,rfl,_,rfl,ln2,λ l hl=>?_⟩)⟩;exact q _ _ ⟨l,rfl,af⟩ (ah.new hl)
   | some i =>
    refine⟨_,rfl,_,rfl,bf ⟨_,rfl,_,rfl,_,_,rfl,rfl,_,rfl,?_⟩⟩;refine b5 (λ hc=>?_) (λ hc=>?_)
    ·have hlt:iY none n<i:=of_decide_eq_true hc;exact q _ _ (by simp only[gG];rw[if_pos hlt];rfl) (ah.refl H)
    ·have hlt:¬iY none n<i:=λ z=>hc (decide_eq_true z)
     refine⟨_,rfl,_,rfl,ln2,λ l hl=>?_⟩;exact q _ _ (by simp only[gG];rw[if_neg hlt];exact⟨l,rfl,af⟩) (ah.new hl)
  | some j =>
   refine⟨_,rfl,_,rfl,br ⟨_,rfl,_,rfl,_,_,rfl,rfl,_,_,rfl,?_⟩⟩;cases lo with
   | none =>
    refine⟨_,rfl,_,rfl,br (br ⟨_,rfl,_,rfl,ln2,λ l hl=>?_⟩)⟩;exact q _ _ ⟨l,rfl,af⟩ (ah.new hl)
   | some i =>
    refine⟨_,rfl,_,rfl,bf ⟨_,rfl,_,rfl,_,_,rfl,rfl,_,rfl,?_⟩⟩;refine b5 (λ hc=>?_) (λ hc=>?_)
    ·have hlt:iY (some j) n<i:=of_decide_eq_true hc;exact q _ _ (by simp only[gG];rw[if_pos hlt];rfl) (ah.refl H)
    ·have hlt:¬iY (some j) n<i:=λ z=>hc (decide_eq_true z)
     refine⟨_,rfl,_,rfl,ln2,λ l hl=>?_⟩;exact q _ _ (by simp only[gG];rw[if_neg hlt];exact⟨l,rfl,af⟩) (ah.new hl)
theorem vP {f:Addr} {fd:FuncData} (F:b4 K "part_from" "part_from" j6 f fd) (Z:Bl mg)  : bA P w K mg base bY 1 f fd ["stretch", "number"] (mW K iL):=by
 refine F.ok (k:=0) ij (λ vs H Q E h=>?_) (λ cdv A outer s H vs Q E hr h=>?_)
 ·obtain⟨p,n,lo,hi,rfl,_⟩:=h;rfl
 ·obtain⟨p,n,lo,hi,rfl,hp,q⟩:=h;refine⟨_,(ai (cA (pv 0) (bX rfl (aJ (ay (i:=2) ij.nd rfl (Hj rfl)) (aJ (ay (i:=3) ij.nd rfl (Hj rfl)) bN))))
   (ai (aN (i:=4) ij.nd rfl (Hj rfl) (fT (cO (fw (pv 2))) (pv 1) (aP (y6 rfl) rfl Z.max EG (aa (pv 2) (aa (pv 1) ae)))))
   (ai (aS (PW.pt (df (cO (cX (pv 3))) (cS (aB iJ (pv 4) (pv 3) (aG _)))))
   (ar (aF cD))
   aK)
   (ar (aF (aX (aa (pv 4) (aa (pv 3) ae)))))))),?_⟩
  exists _,rfl,p,_,rfl,hp,rfl,_,_,rfl,_,_,rfl,rfl;cases lo with
  | none =>
   refine⟨_,rfl,_,rfl,bf ⟨_,rfl,?_⟩⟩;cases hi with
   | none =>
    refine⟨_,rfl,_,rfl,br (br ⟨_,rfl,_,rfl,ln2,λ l hl=>?_⟩)⟩;exact q _ _ ⟨l,rfl,af⟩ (ah.new hl)
   | some j =>
    refine⟨_,rfl,_,rfl,bf ⟨_,rfl,_,rfl,_,_,rfl,rfl,_,rfl,?_⟩⟩;refine b5 (λ hc=>?_) (λ hc=>?_)
    ·have hlt:j<iZ none n:=of_decide_eq_true hc;exact q _ _ (by simp only[iL];rw[if_pos hlt];rfl) (ah.refl H)
    ·have hlt:¬j<iZ none n:=λ z=>hc (decide_eq_true z)
     refine⟨_,rfl,_,rfl,ln2,λ l hl=>?_⟩;exact q _ _ (by simp only[iL];rw[if_neg hlt];exact⟨l,rfl,af⟩) (ah.new hl)
  | some i =>
   refine⟨_,rfl,_,rfl,br ⟨_,rfl,_,rfl,_,_,rfl,?_⟩⟩;cases hi with
   | none =>
    refine⟨_,rfl,_,rfl,br (br ⟨_,rfl,_,rfl,ln2,λ l hl=>?_⟩)⟩;exact q _ _ ⟨l,rfl,af⟩ (ah.new hl)
   | some j =>
    refine⟨_,rfl,_,rfl,bf ⟨_,rfl,_,rfl,_,_,rfl,rfl,_,rfl,?_⟩⟩;refine b5 (λ hc=>?_) (λ hc=>?_)
    ·have hlt:j<iZ (some i) n:=of_decide_eq_true hc;exact q _ _ (by simp only[iL];rw[if_pos hlt];rfl) (ah.refl H)
    ·have hlt:¬j<iZ (some i) n:=λ z=>hc (decide_eq_true z)
     refine⟨_,rfl,_,rfl,ln2,λ l hl=>?_⟩;exact q _ _ (by simp only[iL];rw[if_neg hlt];exact⟨l,rfl,af⟩) (ah.new hl)
theorem yN {f:Addr} {fd:FuncData} (F:b4 K "part_at" "part_at" nh f fd) (Z:Bl mg) (bn:Own P w K mg base "lies_in" 1 ["number", "stretch"] (rH K)):bA P w K mg base bY 2 f fd ["stretch", "number"] (mW K lX):=by
  refine F.ok (k:=1) yJ (λ vs H Q E h=>?_) (λ cdv A outer s H vs Q E hr h=>?_)
  . obtain⟨p,n,lo,hi,rfl,_⟩:=h
    rfl
  . obtain⟨p,n,lo,hi,rfl,hp,q⟩:=h
    refine⟨_,(ai (aS (eI (aw bn (hr.mono ⋯) rfl (aa (pv 1) (aa (pv 0) ae))))
      (ar (aF (aX (aa (pv 1) (aa (pv 1) ae)))))
      aK)
      (ar (aF cD))),?_⟩
    exists _,rfl,_,rfl,n,p,lo,hi,rfl,hp,_,rfl;refine b5 (λ hc=>?_) (λ hc=>?_)
    . refine⟨_,rfl,_,rfl,ln2,λ l hl=>?_⟩
      exact q _ _ (by simp only[lX,if_pos hc];exact⟨l,rfl,af⟩) (ah.new hl)
    . exact q _ _ (by simp only[lX,if_neg hc];rfl) (ah.refl H)
theorem rY {f:Addr} {fd:FuncData} (F:b4 K "part_beside" "part_beside" i0 f fd) (Z:Bl mg)  : bA P w K mg base bY 1 f fd ["stretch", "number"] (mW K jA):=by
 refine F.ok (k:=0) iD (λ vs H Q E h=>?_) (λ cdv A outer s H vs Q E hr h=>?_)
 ·obtain⟨p,n,lo,hi,rfl,_⟩:=h;rfl
 ·obtain⟨p,n,lo,hi,rfl,hp,q⟩:=h;refine⟨_,(ai (cA (pv 0) (bX rfl (aJ (ay (i:=2) iD.nd rfl (Hj rfl)) (aJ (ay (i:=3) iD.nd rfl (Hj rfl)) bN))))
   (ai (aS (PW.pt (df (aB bC (pv 2) (pv 1) (aG _)) (cS (aB bC (pv 3) (pv 1) (aG _)))))
   (ar (aF cD))
   aK)
   (ai (aS (aB bC (pv 2) (pv 1) (aG _))
   (ar (aF (aX (aa (bh cK (pv 1) ao) (aa (pv 3) ae)))))
   aK)
   (ai (aS (aB bC (pv 3) (pv 1) (aG _))
   (ar (aF (aX (aa (pv 2) (aa (bh eM (pv 1) ao) ae)))))
   aK)
   (ar (aF (aX (aa (pv 2) (aa (pv 3) ae))))))))),?_⟩
  exists _,rfl,p,_,rfl,hp,rfl,_,_,rfl,_,_,rfl,rfl;exists _,rfl,_,rfl,iS,_,rfl;rw[jV];refine b5 (λ hc=>?_) (λ hc=>?_)
  ·have h1:lo=some n:=of_decide_eq_true hc;exists _,rfl,_,rfl,iS,_,rfl;rw[jV];refine b5 (λ hd=>?_) (λ hd=>?_)
   ·have h2:hi=some n:=of_decide_eq_true hd;exact q _ _ (by simp only[jA,if_pos h1,if_pos h2];rfl) (ah.refl H)
   ·have h2:¬hi=some n:=λ z=>hd (decide_eq_true z)
    exists _,rfl,_,rfl,iS,_,rfl;rw[jV,hc];refine bf ⟨_,rfl,_,_,rfl,rfl,_,rfl,ln2,λ l hl=>?_⟩;exact q _ _ (by simp only[jA,if_pos h1,if_neg h2];exact⟨l,rfl,af⟩) (ah.new hl)
  ·have h1:¬lo=some n:=λ z=>hc (decide_eq_true z)
   refine br ?_;exists _,rfl,_,rfl,iS,_,rfl;rw[jV,show decide (lo=some n)=false from decide_eq_false h1];refine br ?_;exists _,rfl,_,rfl,iS,_,rfl;rw[jV];refine b5 (λ hd=>?_) (λ hd=>?_)
   ·have h2:hi=some n:=of_decide_eq_true hd;refine⟨_,rfl,_,rfl,_,_,rfl,rfl,ln2,λ l hl=>?_⟩;exact q _ _ (by simp only[jA,if_neg h1,if_pos h2];exact⟨l,rfl,af⟩) (ah.new hl)
   ·have h2:¬hi=some n:=λ z=>hd (decide_eq_true z)
    refine⟨_,rfl,_,rfl,ln2,λ l hl=>?_⟩;exact q _ _ (by simp only[jA,if_neg h1,if_neg h2];exact⟨l,rfl,af⟩) (ah.new hl)
theorem yO {f:Addr} {fd:FuncData} (F:b4 K "part_of" "part_of" ni f fd) (Z:Bl mg) (li:Own P w K mg base "part_below" 1 ["stretch", "number"] (mW K gG)) (lm:Own P w K mg base "part_from" 1 ["stretch", "number"] (mW K iL)) (ln:Own P w K mg base "part_at" 2 ["stretch", "number"] (mW K lX)) (mo:Own P w K mg base "part_beside" 1 ["stretch", "number"] (mW K jA)):bA P w K mg base bY 3 f fd ["stretch", "word", "number", "side"] (xm K):=by
 refine F.ok (k:=2) yK (λ vs H Q E h=>?_) (λ cdv A outer s H vs Q E hr h=>?_)
 ·obtain⟨p,w,n,side,lo,hi,rfl,_⟩:=h;rfl
 ·obtain⟨p,w,n,side,lo,hi,rfl,hp,q⟩:=h;refine⟨_,(ai (aS (aB bC (pv 1) bG (aG _))
   (ar (aF (fT (eI (pv 3)) (aw li (hr.mono ⋯) rfl (aa (pv 0) (aa (pv 2) ae))) (aw lm (hr.mono ⋯) rfl (aa (pv 0) (aa (pv 2) ae))))))
   aK)
   (ar (aF (fT (eI (pv 3)) (aw ln (hr.mono ⋯) rfl (aa (pv 0) (aa (pv 2) ae))) (aw mo (hr.mono ⋯) rfl (aa (pv 0) (aa (pv 2) ae))))))),?_⟩
  exists _,rfl,rfl,_,rfl;by_cases hw:w = "less"
  ·subst hw;rw[zC];refine bf ⟨_,rfl,_,rfl,?_⟩;cases side with
   | true=>exact bf ⟨_,rfl,_,rfl,p,n,lo,hi,rfl,hp,λ v H1 r s1=>q v H1 (by simp only[dX,lj,if_true];exact r) s1⟩
   | false=>exact br ⟨_,rfl,_,rfl,p,n,lo,hi,rfl,hp,λ v H1 r s1=>q v H1 (by simp only[dX,lj,if_true,IB,if_false];exact r) s1⟩
  ·have e:decide (V.str w=V.str "less")=false:=decide_eq_false λ z=>hw (V.str.inj z)
   rw[e];refine br ⟨_,rfl,_,rfl,?_⟩;cases side with
   | true=>exact bf ⟨_,rfl,_,rfl,p,n,lo,hi,rfl,hp,λ v H1 r s1=>q v H1 (by simp only[dX,uY,if_neg hw,if_true];exact r) s1⟩
   | false=>exact br ⟨_,rfl,_,rfl,p,n,lo,hi,rfl,hp,λ v H1 r s1=>q v H1 (by simp only[dX,uY,if_neg hw,IB,if_false];exact r) s1⟩
theorem vQ {f:Addr} {fd:FuncData} (F:b4 K "is_within" "is_within" j7 f fd) (Z:Bl mg)  : bA P w K mg base bY 1 f fd ["one", "other"] (sZ K):=by
 refine F.ok (k:=0) gf (λ vs H Q E h=>?_) (λ cdv A outer s H vs Q E hr h=>?_)
 ·obtain⟨p,q,s,t,rfl,_⟩:=h;rfl
 ·obtain⟨p,q,s,t,rfl,hp,hq,k⟩:=h;refine⟨_,(ai (cA (pv 1) (bX rfl (aJ (ay (i:=2) gf.nd rfl (Hj rfl)) (aJ (ay (i:=3) gf.nd rfl (Hj rfl)) bN))))
   (ai (aN (i:=4) gf.nd rfl (Hj rfl) (nF (iN (fw (pv 2))) (fg (hJ (iN (cX (aH aL (pv 0) ao (λ _ _=>rfl)))) (fg (dP nG (pv 2) (aH aL (pv 0) ao (λ _ _=>rfl)) (aG _)))))))
   (ai (aN (i:=5) gf.nd rfl (Hj rfl) (nF (iN (fw (pv 3))) (fg (hJ (iN (cX (aH aL (pv 0) ao (λ _ _=>rfl)))) (fg (dP nG (aH aL (pv 0) ao (λ _ _=>rfl)) (pv 3) (aG _)))))))
   (ar (aF (hJ (pv 4) (fg (pv 5)))))))),?_⟩
  obtain⟨lo,hi⟩:=s;obtain⟨lo2,hi2⟩:=t;have k:Q (.bl (fH lo lo2&&dI hi hi2)) H:=k;exists _,rfl,q,_,rfl,hq,rfl,_,_,rfl,_,_,rfl,rfl;cases lo2 with
  | none =>
   refine⟨_,rfl,_,rfl,bf ?_⟩;cases hi2 with
   | none =>
    refine⟨_,rfl,_,rfl,bf ?_⟩;exact⟨_,rfl,_,rfl,bf ⟨_,rfl,k⟩⟩
   | some b =>
    refine⟨_,rfl,_,rfl,br ?_⟩;exists _,rfl,p,_,1,_,rfl,rfl,hp,cB,_,rfl;cases hi with
    | none=>exact br ⟨_,rfl,_,rfl,bf ⟨_,rfl,k⟩⟩
    | some c =>
     refine bf ⟨_,rfl,p,_,1,_,rfl,rfl,hp,cB,_,rfl,_,_,rfl,rfl,?_⟩;exact⟨_,rfl,_,rfl,bf ⟨_,rfl,k⟩⟩
  | some a =>
   refine⟨_,rfl,_,rfl,br ?_⟩;exists _,rfl,p,_,0,_,rfl,rfl,hp,cg,_,rfl;cases lo with
   | none =>
    refine br ?_;cases hi2 with
    | none =>
     refine⟨_,rfl,_,rfl,bf ?_⟩;exact⟨_,rfl,_,rfl,br k⟩
    | some b =>
     refine⟨_,rfl,_,rfl,br ?_⟩;exists _,rfl,p,_,1,_,rfl,rfl,hp,cB,_,rfl;cases hi with
     | none=>exact br ⟨_,rfl,_,rfl,br k⟩
     | some c =>
      refine bf ⟨_,rfl,p,_,1,_,rfl,rfl,hp,cB,_,rfl,_,_,rfl,rfl,?_⟩;exact⟨_,rfl,_,rfl,br k⟩
   | some a' =>
    refine bf ⟨_,rfl,_,rfl,p,_,0,_,rfl,rfl,hp,cg,_,_,rfl,rfl,?_⟩;cases hi2 with
    | none =>
     refine⟨_,rfl,_,rfl,bf ?_⟩;exists _,rfl,_,rfl;cases hx:decide (a<=a') with
     | true=>exact bf ⟨_,rfl,by have k':=k;simp only[fH,dI,hx] at k';exact k'⟩
     | false=>exact br (by have k':=k;simp only[fH,dI,hx] at k';exact k')
    | some b =>
     refine⟨_,rfl,_,rfl,br ?_⟩;exists _,rfl,p,_,1,_,rfl,rfl,hp,cB,_,rfl;cases hi with
     | none =>
      refine br ⟨_,rfl,_,rfl,?_⟩;cases hx:decide (a<=a') with
      | true=>exact bf ⟨_,rfl,by have k':=k;simp only[fH,dI,hx] at k';exact k'⟩
      | false=>exact br (by have k':=k;simp only[fH,dI,hx] at k';exact k')
     | some c =>
      refine bf ⟨_,rfl,p,_,1,_,rfl,rfl,hp,cB,_,rfl,_,_,rfl,rfl,?_⟩;exists _,rfl,_,rfl;cases hx:decide (a<=a') with
      | true=>exact bf ⟨_,rfl,by have k':=k;simp only[fH,dI,hx,Ju] at k';exact k'⟩
      | false=>exact br (by have k':=k;simp only[fH,dI,hx,Jz] at k';exact k')
theorem wx {f:Addr} {fd:FuncData} (F:b4 K "facts_of" "facts_of" lL f fd) (Z:Bl mg) {aA:Addr} (GA:iz K mg aA)  : bA P w K mg base bY 1 f fd ["stretches"] (mR aA):=by
 refine F.ok (k:=0) wo (λ vs H Q E h=>?_) (λ cdv A outer s H vs Q E hr h=>?_)
 ·obtain⟨d,kvs,ks,T,rfl,_⟩:=h;rfl
 ·obtain⟨d,kvs,ks,T,rfl,hd,tb,hl,q⟩:=h;exists _,(ar (aF (bw bL rfl Z.tuple cL (aa (dA ["name"] ["stretches"] [0] rfl (jc (aP (jB rfl) rfl Z.sorted gY (aa (pv 0) ae))) rfl ⋯ ⋯ ⋯ ⟨⟨rfl,.inl rfl,rfl⟩,True.intro⟩ (λ _ _ _ _=>(ay (i:=0) (show ((["name"]:List Str)++(["stretches"]:List Str)).Nodup by decide) rfl (Hj rfl) (hf:=Hz rfl))) (λ _ _ _ _=>(qW (aB (E7 (aA:=aA) hr.units GA) (kC (dW hr) (pv 1) (pv 0) (λ _ _=>rfl)) (gm (v:=.ref aA) rfl GA.pY rfl) (aG _)))) (λ _ _ _ _=>(aX (aa (pv 0) (aa (kC (dW hr) (pv 1) (pv 0) (λ _ _=>rfl)) ae))))) ae))));refine⟨_,rfl,d,kvs,ks,rfl,hd,tb.keys,hl,λ l ss hp hs hn=>?_⟩;have srt:jE ss:=⟨mQ hs,hp.nodup_iff.mpr tb.nd⟩;have hl1:(upd H l (.lst (ss.map V.str))) l=some (.lst (ss.map V.str)):=af;have s1:ah H (upd H l (.lst (ss.map V.str))):=ah.new hn;have hssl:ss.length<64:=by rw[hp.length_eq];exact hl
  generalize (upd H l (.lst (ss.map V.str)))=H1 at hl1 s1;refine⟨l,rfl,⟨_,aT.of hl1⟩,λ acc na=>?_⟩;refine ky (K:=K) (a:=l) (xs:=ss.map V.str) (λ i ys Hi H'=>∃c:Option V,Hi=[c,some (.ref d)]/\bp H' ys (((ss.take i).filter λ x=>!decide (T x=cF)).map (dF T))/\H' acc=some (.lst ys)/\ah H1 H') ?_ ?_ ?_ ?_
  ·exact⟨none,rfl,.nil,af,ah.new na⟩
  ·rintro i ys Hi H2 hi ⟨c,rfl,r,ha,s2⟩;exists aT.of (s2 _ _ hl1),ha;have h1:=r.len;rw[Hk] at h1;have h2:=II (λ x=>!decide (T x=cF)) (ss.take i);have h3:=List.length_take_le i ss;have h4:(ss.take i).length<=ss.length:=by rw[HP];omega
   exact bB ⋯
  ·rintro i x ys Hi H2 hi ⟨c,rfl,r,ha,s2⟩;obtain⟨y,hy,rfl⟩:∃y,ss[i]?=some y/\x=V.str y:=by
    rw[HC] at hi;cases e:ss[i]? with
    | none=>rw[e] at hi;cases hi
    | some k=>rw[e] at hi;exact⟨k,rfl,(HB.inj hi).symm⟩
   have hym:y∈ks:=hp.mem_iff.mp (Hy hy);have tk:ss.take (i+1)=ss.take i++[y]:=by rw[HM,hy];rfl
   obtain⟨v,ev,sv,_⟩:∃v,cw kvs (Sum.inr y)=some v/\SV aA H v (T y)/\y∈ks:=by
    rcases tb.val y with ⟨_,_,c⟩ | h
    ·exact absurd hym c
    ·exact h
   have sv2:SV aA H2 v (T y):=sv.aM λ p xs e=>s2 _ _ (s1 _ _ e)
   have hd2:H2 d=some (.dK kvs):=s2 _ _ (s1 _ _ hd);have dg:dQ H2 d (.str y) (some v):=by
    have:=dQ.k (k:=Sum.inr y) hd2;rw[ev] at this;exact this
   refine cb ?_;exists _,rfl,_,rfl,d,v,rfl,dg,T y,sv2,rfl,_,rfl;by_cases hT:T y=cF
   ·refine aY (by rw[decide_eq_true hT];rfl) ?_;refine⟨_,rfl,?_,ha,s2⟩;rw[tk,JN,Jv (by rw[decide_eq_true hT];decide),List.filter_nil,IX];exact r
   ·refine bJ (by rw[decide_eq_false hT];rfl) ?_;refine⟨_,rfl,_,rfl,_,rfl,d,v,rfl,dg,ln2,λ t nt=>?_⟩;have s3:=ah.new (o:=.tup [.str y,v]) nt;have ht:(upd H2 t (.tup [.str y,v])) t=some (.tup [.str y,v]):=af;generalize (upd H2 t (.tup [.str y,v]))=H3 at s3 ht;have sh:SH H3 v (T y):=by
     rcases sv2 with h | ⟨_,h⟩
     ·exact h.aM λ p xs e=>s3 _ _ e
     ·exact absurd h hT
    have ha3:=s3 _ _ ha;refine⟨ha3,_,rfl,?_,af,(s2.trans s3).put na⟩;rw[tk,JN,JT (by rw[decide_eq_false hT];rfl),List.filter_nil,HA];refine bp.app ((r.same s3 (h9 T _)).put ha3 (h9 T _)) ?_;refine bg.aM (H:=H3) (λ p zs e=>by rw[av (bP e ha3 (by intro z;cases z))];exact e) (.tup ht (.cons (.str y) (.cons sh.rd .nil))) ?_;have:=h9 T [y];simpa [cT] using this
  ·rintro ys Hi H2 ⟨c,rfl,r,ha,s2⟩;rw[Hk,HW] at r;refine⟨acc,ys,rfl,.inl ⟨aT.of ha,λ t nt=>?_⟩⟩;refine q _ _ ⟨t,ys,_,rfl,af,srt.filter _,λ x=>?_,r.same (ah.new nt) (h9 T _)⟩ ((s1.trans s2).trans (ah.new nt));rw[Iu]
   constructor
   ·rintro⟨_,h⟩ e;rw[decide_eq_true e] at h;cases h
   ·intro h;refine⟨?_,by rw[decide_eq_false h];rfl⟩
    rcases tb.val x with ⟨_,a,_⟩ | ⟨_,_,_,a⟩
    ·exact absurd a h
    ·exact hp.mem_iff.mpr a
theorem Cm {f:Addr} {fd:FuncData} (F:b4 K "known" "known" rP f fd) (Z:Bl mg) {aA:Addr} (GA:iz K mg aA)  : bA P w K mg base bY 1 f fd ["facts", "name"] (xl aA):=by
 refine F.ok (k:=0) Cg (λ vs H Q E h=>?_) (λ cdv A outer s H vs Q E hr h=>?_)
 ·obtain⟨fv,x,T,rfl,_⟩:=h;rfl
 ·obtain⟨fv,x,T,rfl,hf,q⟩:=h;exists _,(ar (aF (d9 (dW hr) (bw (fQ rfl) rfl Z.dict nJ (aa (pv 0) ae)) (pv 1) (gm (v:=.ref aA) rfl GA.pY rfl) ⟨rfl,rfl,rfl,rfl⟩)));obtain⟨fp,xs,ss,rfl,hfp,srt,hmem,rf⟩:=hf;obtain⟨kvs,l1,l2,l3,tb⟩:=FV.tb aA srt hmem rf;refine⟨_,rfl,fp,xs,kvs,rfl,hfp,l1,l2,l3,λ d nd=>?_⟩;obtain⟨v,ev,sv⟩:=tb.getD x;exact⟨d,rfl,.inl ⟨kvs,.inl af⟩,_,rfl,_,v,dQ.k (k:=Sum.inr x) af,ev,q v _ (sv.aM λ p zs e=>ah.new nd _ _ e) (ah.new nd)⟩
theorem uh {f:Addr} {fd:FuncData} (F:b4 K "with_known" "with_known" jO f fd) (Z:Bl mg) {aA:Addr} (GA:iz K mg aA) (ca:Own P w K mg base "facts_of" 1 ["stretches"] (mR aA)):bA P w K mg base bY 2 f fd ["facts", "name", "stretch"] (oz aA):=by
 refine F.ok (k:=1) mj (λ vs H Q E h=>?_) (λ cdv A outer s H vs Q E hr h=>?_)
 ·obtain⟨fv,sv,x,T,s,rfl,_⟩:=h;rfl
 ·obtain⟨fv,sv,x,T,s,rfl,hf,hs,bV,q⟩:=h;refine⟨_,(ai (aN (i:=3) mj.nd rfl (Hj rfl) (bw (fQ rfl) rfl Z.dict nJ (aa (pv 0) ae)))
   (ai (kF (dW hr) (pv 3) (pv 1) (pv 2) rfl)
   (ar (aF (aw ca (hr.mono ⋯) rfl (aa (pv 3) ae)))))),?_⟩
  obtain⟨fp,xs,ss,rfl,hfp,srt,hmem,rf⟩:=hf;obtain⟨kvs,l1,l2,l3,tb⟩:=FV.tb aA srt hmem rf;have hssl:ss.length<=62:=bV ss (λ x hx=>(hmem x).mp hx) srt.nd;have kl:kvs.length=ss.length:=by have:=congrArg Iz tb.keys;simpa using this
  refine⟨_,rfl,fp,xs,kvs,rfl,hfp,l1,l2,l3,λ d nd=>?_⟩;have k1:∀p zs,H p=some (.tup zs)->(upd H d (.dK kvs)) p=some (.tup zs):=λ p zs e=>ah.new nd _ _ e
  exists _,rfl,_,rfl,_,rfl,d,_,rfl,lh.k (k:=Sum.inr x) af (bB ⋯);obtain⟨ks2,t2,k2,m2⟩:=(tb.aM k1).put x (hs.aM k1);have hd1:(upd H d (.dK kvs)) d=some (.dK kvs):=af;refine⟨_,rfl,d,_,ks2,_,rfl,af,t2.aM (λ p zs e=>by rw[av (bP e hd1 (by intro z;cases z))];exact e),⋯,λ v H2 f2 s2=>q v H2 f2 (((ah.new nd).put nd).trans s2)⟩
theorem Cn {f:Addr} {fd:FuncData} (F:b4 K "holds" "holds" rQ f fd) (Z:Bl mg) (bn:Own P w K mg base "lies_in" 1 ["number", "stretch"] (rH K)):bA P w K mg base bY 2 f fd ["facts", "worths"] vp:=by
 refine F.ok (k:=1) Ci (λ vs H Q E h=>?_) (λ cdv A outer s H vs Q E hr h=>?_)
 ·obtain⟨fv,d,kvs,w,T,rfl,_⟩:=h;rfl
 ·obtain⟨fv,d,kvs,w,T,rfl,hf,hd,dw,bV,q⟩:=h;exists _,(ar (aF (aP (jX rfl) rfl Z.all qi (aa (dA ["name", "stretch"] ["worths"] [1] rfl (d5 (pv 0)) rfl ⋯ ⋯ ⋯ ⟨⟨rfl,.inl rfl,rfl⟩,True.intro⟩ (λ _ _ _ _=>(kA (K:=K) (n:=2) rfl (bX (n:=2) rfl (aJ (ay (i:=0) (show ((["name", "stretch"]:List Str)++(["worths"]:List Str)).Nodup by decide) rfl (Hj rfl) (hf:=Hz rfl)) (aJ (ay (i:=1) (show ((["name", "stretch"]:List Str)++(["worths"]:List Str)).Nodup by decide) rfl (Hj rfl) (hf:=Hz rfl)) bN))))) (λ _ _ _ _=>dG) (λ _ _ _ _=>(aw bn (hr.mono ⋯) rfl (aa (d9 (dW hr) (pv 2) (pv 0) ao ⟨rfl,rfl,rfl,rfl⟩) (aa (pv 1) ae))))) ae))));obtain⟨fp,xs,ss,rfl,hfp,srt,hmem,rf⟩:=hf;refine⟨_,rfl,fp,rfl,⟨_,au.of hfp⟩,λ acc na=>?_⟩;refine jx (K:=K) (a:=fp) (xs:=xs) (λ i ys Hi H'=>∃c1 c2:Option V,Hi=[c1,c2,some (.ref d)]/\ys=((ss.take i).map λ y=>cN (w y) (T y).1 (T y).2).map V.bl/\H' acc=some (.lst ys)/\ah H H') ?_ ?_ ?_ ?_
  ·exact⟨none,none,rfl,rfl,af,ah.new na⟩
  ·rintro i ys Hi H1 hi ⟨c1,c2,rfl,rfl,ha,s1⟩;exists au.of (s1 _ _ hfp),ha;rw[Hk,Hk,HP];have h1:=bV ss (λ x hx=>(hmem x).mp hx) srt.nd;exact bB ⋯
  ·rintro i x ys Hi H1 hi ⟨c1,c2,rfl,rfl,ha,s1⟩;have hil:i<ss.length:=by
    have:=(HD.mp hi).1;rw[rf.len,Hk] at this;exact this
   have hyi:ss[i]?=some ss[i]:=by simp[hil]
   generalize ss[i]=y at hyi;obtain⟨v,hv,rd⟩:=rf.get (i:=i) (d:=dF T y) (by rw[HC,hyi];rfl);rw[hi] at hv;cases hv;obtain⟨t,q2,rfl,ht,hq2⟩:=zX rd;exists t,_,rfl,au.of (s1 _ _ ht),rfl,_,_,rfl,_,_,rfl,rfl;refine gy ?_;refine bf ?_;exists _,rfl,d,rfl,.inl ⟨kvs,.inl (s1 _ _ hd)⟩,_,rfl,_,_,dQ.k (k:=Sum.inr y) (s1 _ _ hd),dw y,_,rfl,w y,q2,(T y).1,(T y).2,rfl,au.of (s1 _ _ hq2);refine⟨ha,_,_,rfl,?_,af,s1.put na⟩;rw[HM,hyi,JV,HA,HA];rfl
  ·rintro ys Hi H1 ⟨c1,c2,rfl,rfl,ha,s1⟩;have hxl:xs.length=ss.length:=by rw[rf.len,Hk]
   rw[hxl,HW] at ha;exists acc,_,rfl,aT.of ha;exact q _ H1 (Aa hmem) s1
theorem Aq {f:Addr} {fd:FuncData} (F:b4 K "covers" "covers" pE f fd) (Z:Bl mg) {aA:Addr} (GA:iz K mg aA) (nw:Own P w K mg base "is_within" 1 ["one", "other"] (sZ K)):bA P w K mg base bY 2 f fd ["facts", "others"] vt:=by
 refine F.ok (k:=1) tS (λ vs H Q E h=>?_) (λ cdv A outer s H vs Q E hr h=>?_)
 ·obtain⟨fv,gv,T,U,rfl,_⟩:=h;rfl
 ·obtain⟨fv,gv,T,U,rfl,hf,hg,bV,q⟩:=h;refine⟨_,(ai (aN (i:=2) tS.nd rfl (Hz rfl) (bw (fQ rfl) rfl Z.dict nJ (aa (pv 1) ae)))
   (ar (aF (aP (jX rfl) rfl Z.all qi (aa (dA ["name", "stretch"] ["stretches"] [2] rfl (d5 (pv 0)) rfl ⋯ ⋯ ⋯ ⟨⟨rfl,.inl rfl,rfl⟩,True.intro⟩ (λ _ _ _ _=>(kA (K:=K) (n:=2) rfl (bX (n:=2) rfl (aJ (ay (i:=0) (show ((["name", "stretch"]:List Str)++(["stretches"]:List Str)).Nodup by decide) rfl (Hj rfl) (hf:=Hz rfl)) (aJ (ay (i:=1) (show ((["name", "stretch"]:List Str)++(["stretches"]:List Str)).Nodup by decide) rfl (Hj rfl) (hf:=Hz rfl)) bN))))) (λ _ _ _ _=>dG) (λ _ _ _ _=>(aw nw (hr.mono ⋯) rfl (aa (d9 (dW hr) (pv 2) (pv 0) (gm (v:=.ref aA) rfl GA.pY rfl) ⟨rfl,rfl,rfl,rfl⟩) (aa (pv 1) ae))))) ae))))),?_⟩
  obtain⟨fp,xs,ss,rfl,hfp,srt,hmem,rf⟩:=hf;obtain⟨gp,ys0,ss0,rfl,hgp,srt0,hmem0,rg⟩:=hg;obtain⟨kvs,l1,l2,l3,tb⟩:=FV.tb aA srt0 hmem0 rg;refine⟨_,rfl,gp,ys0,kvs,rfl,hgp,l1,l2,l3,λ d nd=>?_⟩;have s0:=ah.new (o:=.dK kvs) nd;have hd0:(upd H d (.dK kvs)) d=some (.dK kvs):=af;have rf2:=rf.same s0 (h9 T ss);have hfp2:=s0 _ _ hfp;have tb2:=tb.aM λ p zs e=>s0 _ _ e
  generalize (upd H d (.dK kvs))=HH at s0 hd0 rf2 hfp2 tb2;refine⟨_,rfl,fp,rfl,⟨_,au.of hfp2⟩,λ acc na=>?_⟩;refine jx (K:=K) (a:=fp) (xs:=xs) (λ i ys Hi H'=>∃c1 c2:Option V,Hi=[c1,c2,some (.ref d)]/\ys=((ss.take i).map λ y=>jH (U y) (T y)).map V.bl/\H' acc=some (.lst ys)/\ah HH H') ?_ ?_ ?_ ?_
  ·exact⟨none,none,rfl,rfl,af,ah.new na⟩
  ·rintro i ys Hi H1 hi ⟨c1,c2,rfl,rfl,ha,s1⟩;exists au.of (s1 _ _ hfp2),ha;rw[Hk,Hk,HP];have h1:=bV ss (λ x hx=>(hmem x).mp hx) srt.nd;exact bB ⋯
  ·rintro i x ys Hi H1 hi ⟨c1,c2,rfl,rfl,ha,s1⟩;have hil:i<ss.length:=by
    have:=(HD.mp hi).1;rw[rf2.len,Hk] at this;exact this
   have hyi:ss[i]?=some ss[i]:=by simp[hil]
   generalize ss[i]=y at hyi;obtain⟨v,hv,rd⟩:=rf2.get (i:=i) (d:=dF T y) (by rw[HC,hyi];rfl);rw[hi] at hv;cases hv;obtain⟨t,q2,rfl,ht,hq2⟩:=zX rd;exists t,_,rfl,au.of (s1 _ _ ht),rfl,_,_,rfl,_,_,rfl,rfl;refine gy ?_;refine bf ?_;obtain⟨u,eu,su⟩:=(tb2.aM λ p zs e=>s1 _ _ e).getD y;obtain⟨qa,rfl,hqa⟩:=su.sq GA;exists _,rfl,d,rfl,.inl ⟨kvs,.inl (s1 _ _ hd0)⟩,_,rfl,_,_,dQ.k (k:=Sum.inr y) (s1 _ _ hd0),eu,_,rfl,qa,q2,U y,T y,rfl,hqa,au.of (s1 _ _ hq2);refine⟨ha,_,_,rfl,?_,af,s1.put na⟩;rw[HM,hyi,JV,HA,HA];rfl
  ·rintro ys Hi H1 ⟨c1,c2,rfl,rfl,ha,s1⟩;have hxl:xs.length=ss.length:=by rw[rf2.len,Hk]
   rw[hxl,HW] at ha;exists acc,_,rfl,aT.of ha;exact q _ H1 (Ab hmem) (s0.trans s1)
theorem Co {f:Addr} {fd:FuncData} (F:b4 K "moved" "moved" rR f fd) (Z:Bl mg)  : bA P w K mg base bY 1 f fd ["stretch", "number"] (xi K):=by
 refine F.ok (k:=0) pF (λ vs H Q E h=>?_) (λ cdv A outer s H vs Q E hr h=>?_)
 ·obtain⟨p,s,n,rfl,_⟩:=h;rfl
 ·obtain⟨p,s,n,rfl,hp,q⟩:=h;refine⟨_,(ai (cA (pv 0) (bX rfl (aJ (ay (i:=2) pF.nd rfl (Hj rfl)) (aJ (ay (i:=3) pF.nd rfl (Hj rfl)) bN))))
   (ar (aF (aX (aa (fT (cO (fw (pv 2))) cD (bh cK (pv 2) (pv 1))) (aa (fT (cO (fw (pv 3))) cD (bh cK (pv 3) (pv 1))) ae)))))),?_⟩
  obtain⟨lo,hi⟩:=s;exists _,rfl,p,_,rfl,hp,rfl,_,_,rfl,_,_,rfl,rfl;cases lo with
  | none =>
   refine⟨_,rfl,_,rfl,bf ?_⟩;cases hi with
   | none=>exact⟨_,rfl,_,rfl,bf ⟨ln2,λ t nt=>q _ _ ⟨t,rfl,af⟩ (ah.new nt)⟩⟩
   | some b=>exact⟨_,rfl,_,rfl,br ⟨_,rfl,_,rfl,_,_,rfl,rfl,ln2,λ t nt=>q _ _ ⟨t,rfl,af⟩ (ah.new nt)⟩⟩
  | some a =>
   refine⟨_,rfl,_,rfl,br ⟨_,rfl,_,rfl,_,_,rfl,rfl,?_⟩⟩;cases hi with
   | none=>exact⟨_,rfl,_,rfl,bf ⟨ln2,λ t nt=>q _ _ ⟨t,rfl,af⟩ (ah.new nt)⟩⟩
   | some b=>exact⟨_,rfl,_,rfl,br ⟨_,rfl,_,rfl,_,_,rfl,rfl,ln2,λ t nt=>q _ _ ⟨t,rfl,af⟩ (ah.new nt)⟩⟩
theorem nW {f:Addr} {fd:FuncData} (F:b4 K "stretch_behind" "stretch_behind" gP f fd) (Z:Bl mg) {aA:Addr} (GA:iz K mg aA) (nM:Own P w K mg base "moved" 1 ["stretch", "number"] (xi K)):bA P w K mg base bY 2 f fd ["stretches", "deed"] (qh aA):=by
  refine F.ok (k:=1) i8 (λ vs H Q E h=>?_) (λ cdv A outer s H vs Q E hr h=>?_)
  . obtain⟨d,w,kvs,ks,T,dd,rfl,_⟩:=h
    rfl
  . obtain⟨d,w,kvs,ks,T,dd,rfl,hd,tb,hw,q⟩:=h
    refine⟨_,(ai (cY (yX (i:=2) (j:=3) rfl i8.nd rfl rfl ⋯ rfl rfl (aa (aH aL (pv 1) ao (λ _ _=>rfl)) (aa (aH aL (pv 1) ao (λ _ _=>rfl)) ae)) rfl))
      (ai (aS (aB bC (pv 2) bG (aG _))
      (ar (aF (aX (aa (aH aL (pv 1) ao (λ _ _=>rfl)) (aa (aH aL (pv 1) ao (λ _ _=>rfl)) ae)))))
      aK)
      (ai (aS (aB bC (pv 2) bG (aG _))
      (ar (aF (d9 (dW hr) (pv 0) (aH aL (pv 1) ao (λ _ _=>rfl)) (gm (v:=.ref aA) rfl GA.pY rfl) ⟨rfl,rfl,rfl,rfl⟩)))
      aK)
      (ai (aS (aB bC (pv 2) bG (aG _))
      (ar (aF (aw nM (hr.mono ⋯) rfl (aa (d9 (dW hr) (pv 0) (pv 3) (gm (v:=.ref aA) rfl GA.pY rfl) ⟨rfl,rfl,rfl,rfl⟩) (aa (aH aL (pv 1) ao (λ _ _=>rfl)) ae)))))
      aK)
      (ai (aS (aB bC (pv 2) bG (aG _))
      (ar (aF (gm (v:=.ref aA) rfl GA.pY rfl)))
      aK)
      (ar (aF (d9 (dW hr) (pv 0) (pv 3) (gm (v:=.ref aA) rfl GA.pY rfl) ⟨rfl,rfl,rfl,rfl⟩)))))))),?_⟩
    cases dd
    case put x n =>
      exists λ σ' H'=>σ' = [some (.ref d),some (.ref w),some (.str "put"),some (.str x)]/\H=H',⟨_,rfl,w,_,0,_,rfl,rfl,au.of hw,cg,_,rfl,w,_,1,_,rfl,rfl,au.of hw,cB,_,_,rfl,rfl,rfl⟩;rintro σ' H' ⟨rfl,rfl⟩;exists _,rfl,rfl,_,rfl;refine bJ (show decide (V.str "put" = V.str "put")=true by decide) ?_;exact⟨_,rfl,w,_,2,_,rfl,rfl,au.of hw,at2,_,rfl,w,_,2,_,rfl,rfl,au.of hw,at2,ln2,λ t nt=>q _ _ (.inl ⟨t,rfl,af⟩) (ah.new nt)⟩
    case copy x y =>
      exists λ σ' H'=>σ' = [some (.ref d),some (.ref w),some (.str "copy"),some (.str x)]/\H=H',⟨_,rfl,w,_,0,_,rfl,rfl,au.of hw,cg,_,rfl,w,_,1,_,rfl,rfl,au.of hw,cB,_,_,rfl,rfl,rfl⟩;rintro σ' H' ⟨rfl,rfl⟩;exists _,rfl,rfl,_,rfl;refine aY (show decide (V.str "copy" = V.str "put")=false by decide) ?_;exists _,rfl,rfl,_,rfl;refine bJ (show decide (V.str "copy" = V.str "copy")=true by decide) ?_;obtain⟨v,ev,sv⟩:=tb.getD y;exact⟨_,rfl,d,rfl,.inl ⟨kvs,.inl hd⟩,_,rfl,w,_,2,_,rfl,rfl,au.of hw,at2,_,v,dQ.k (k:=Sum.inr y) hd,ev,q _ _ sv (ah.refl H)⟩
    case add x n =>
      exists λ σ' H'=>σ' = [some (.ref d),some (.ref w),some (.str "add"),some (.str x)]/\H=H',⟨_,rfl,w,_,0,_,rfl,rfl,au.of hw,cg,_,rfl,w,_,1,_,rfl,rfl,au.of hw,cB,_,_,rfl,rfl,rfl⟩;rintro σ' H' ⟨rfl,rfl⟩;exists _,rfl,rfl,_,rfl;refine aY (show decide (V.str "add" = V.str "put")=false by decide) ?_;exists _,rfl,rfl,_,rfl;refine aY (show decide (V.str "add" = V.str "copy")=false by decide) ?_;exists _,rfl,rfl,_,rfl;refine bJ (show decide (V.str "add" = V.str "add")=true by decide) ?_;obtain⟨v,ev,sv⟩:=tb.getD x;obtain⟨qa,rfl,hqa⟩:=sv.sq GA;exact⟨_,rfl,d,rfl,.inl ⟨kvs,.inl hd⟩,_,rfl,_,_,dQ.k (k:=Sum.inr x) hd,ev,_,rfl,w,_,2,_,rfl,rfl,au.of hw,at2,qa,T x,n,rfl,hqa,λ v H' sh s1=>q _ _ (.inl sh) s1⟩
    case read x =>
      exists λ σ' H'=>σ' = [some (.ref d),some (.ref w),some (.str "read"),some (.str x)]/\H=H',⟨_,rfl,w,_,0,_,rfl,rfl,au.of hw,cg,_,rfl,w,_,1,_,rfl,rfl,au.of hw,cB,_,_,rfl,rfl,rfl⟩;rintro σ' H' ⟨rfl,rfl⟩;exists _,rfl,rfl,_,rfl;refine aY (show decide (V.str "read" = V.str "put")=false by decide) ?_;exists _,rfl,rfl,_,rfl;refine aY (show decide (V.str "read" = V.str "copy")=false by decide) ?_;exists _,rfl,rfl,_,rfl;refine aY (show decide (V.str "read" = V.str "add")=false by decide) ?_;exists _,rfl,rfl,_,rfl;refine bJ (show decide (V.str "read" = V.str "read")=true by decide) ?_;exact q _ _ (.inr ⟨rfl,rfl⟩) (ah.refl H)
    case tell x =>
      exists λ σ' H'=>σ' = [some (.ref d),some (.ref w),some (.str "tell"),some (.str x)]/\H=H',⟨_,rfl,w,_,0,_,rfl,rfl,au.of hw,cg,_,rfl,w,_,1,_,rfl,rfl,au.of hw,cB,_,_,rfl,rfl,rfl⟩;rintro σ' H' ⟨rfl,rfl⟩;exists _,rfl,rfl,_,rfl;refine aY (show decide (V.str "tell" = V.str "put")=false by decide) ?_;exists _,rfl,rfl,_,rfl;refine aY (show decide (V.str "tell" = V.str "copy")=false by decide) ?_;exists _,rfl,rfl,_,rfl;refine aY (show decide (V.str "tell" = V.str "add")=false by decide) ?_;exists _,rfl,rfl,_,rfl;refine aY (show decide (V.str "tell" = V.str "read")=false by decide) ?_;obtain⟨v,ev,sv⟩:=tb.getD x;exact⟨_,rfl,d,rfl,.inl ⟨kvs,.inl hd⟩,_,rfl,_,v,dQ.k (k:=Sum.inr x) hd,ev,q _ _ sv (ah.refl H)⟩
theorem Ar {f:Addr} {fd:FuncData} (F:b4 K "behind" "behind" pG f fd) (Z:Bl mg) {aA:Addr} (GA:iz K mg aA) (nN:Own P w K mg base "stretch_behind" 2 ["stretches", "deed"] (qh aA)) (ca:Own P w K mg base "facts_of" 1 ["stretches"] (mR aA)):bA P w K mg base bY 3 f fd ["facts", "deeds"] o7:=by
 refine F.ok (k:=2) nj (λ vs H Q E h=>?_) (λ cdv A outer s H vs Q E hr h=>?_)
 ·obtain⟨fv,p,ws,ds,T,m,rfl,_⟩:=h;rfl
 ·obtain⟨fv,p,ws,ds,T,m,rfl,hf,hp,r,bV,hm,q⟩:=h;refine⟨_,(ai (aN (i:=2) nj.nd rfl (Hj rfl) (bw (fQ rfl) rfl Z.dict nJ (aa (pv 0) ae)))
   (ai (dJ PassesOwn.never rfl (d5 (pv 1)) (ay (i:=3) nj.nd rfl (Hj rfl))
   (ar (kF (dW hr) (pv 2) (aH aL (pv 3) ao (λ _ _=>rfl)) (aw nN (hr.mono ⋯) rfl (aa (pv 2) (aa (pv 3) ae))) rfl)))
   (ar (aF (aw ca (hr.mono ⋯) rfl (aa (pv 2) ae)))))),?_⟩
  obtain⟨fp,xs,ss,rfl,hfp,srt,hmem,rf⟩:=hf;obtain⟨kvs,l1,l2,l3,tb⟩:=FV.tb aA srt hmem rf;have hssl:ss.length<=m:=bV ss (λ x hx=>(hmem x).mp hx) srt.nd;refine⟨_,rfl,fp,xs,kvs,rfl,hfp,l1,l2,l3,λ d nd=>?_⟩;have tb1:Tb aA (upd H d (.dK kvs)) kvs ss T:=tb.aM λ p xs e=>ah.new nd _ _ e
  refine⟨_,rfl,p,rfl,⟨_,au.of (ah.new nd _ _ hp)⟩,fM (K:=K) (a:=p) (xs:=ws) (λ i Hh H'=>∃(c:Option V) (kvs':List (Key×V)) (ks':List Str),Hh=[some (.ref fp),some (.ref p),some (.ref d),c]/\H' d=some (.dK kvs')/\Tb aA H' kvs' ks' (aW T (ds.take i))/\ks'.length<=m+i/\ah H H') ?_ ?_ ?_ ?_⟩
  ·exact⟨none,kvs,ss,rfl,af,tb1,hssl,ah.new nd⟩
  ·rintro i Hh H1 hi ⟨c,kvs1,ks1,rfl,h1,t1,k1,s1⟩;exact au.of (s1 _ _ hp)
  ·rintro i x Hh H1 hi ⟨c,kvs1,ks1,rfl,h1,t1,k1,s1⟩;have hil:i<ds.length:=by
    have:=(HD.mp hi).1;rw[r.len,Hk] at this;exact this
   have hdi:ds[i]?=some ds[i]:=by simp[hil]
   generalize ds[i]=dd at hdi;obtain⟨v,hv,rd⟩:=r.get (i:=i) (d:=bI dd) (by rw[HC,hdi];rfl);rw[hi] at hv;cases hv;obtain⟨dp,rfl,hdp⟩:=ix rd;have tk:aW T (ds.take (i+1))=yy (aW T (ds.take i)) dd:=by
    unfold aW;rw[HM,hdi,JV,JQ];rfl
   refine cb ?_;refine⟨_,rfl,_,rfl,d,dp,kvs1,ks1,_,dd,rfl,h1,t1,s1 _ _ hdp,λ v H2 sv s2=>?_⟩;have h2:=s2 _ _ h1;have kl:kvs1.length=ks1.length:=by have:=congrArg Iz t1.keys;simpa using this
   exists _,rfl,_,rfl,dp,_,1,_,rfl,rfl,au.of (s2 _ _ (s1 _ _ hdp)),Bo dd,d,_,rfl,lh.k (k:=Sum.inr (pX dd)) h2 (bB ⋯);obtain⟨ks2,t2,k2,_⟩:=(t1.aM λ p xs e=>s2 _ _ e).put (pX dd) sv;refine⟨_,_,ks2,rfl,af,?_,by omega,(s1.trans s2).put nd⟩;rw[tk];exact t2.aM λ p xs e=>by rw[av (bP e h2 (by intro z;cases z))];exact e
  ·rintro Hh H1 ⟨c,kvs1,ks1,rfl,h1,t1,k1,s1⟩;have hwl:ws.length=ds.length:=by rw[r.len,Hk]
   rw[hwl,HW] at t1;refine⟨_,rfl,d,kvs1,ks1,_,rfl,h1,t1,⋯,λ v H2 f2 s2=>q v H2 f2 (s1.trans s2)⟩
theorem qM {f:Addr} {fd:FuncData} (F:b4 K "known_beyond" "known_beyond" iE f fd) (Z:Bl mg) {aA:Addr} (GA:iz K mg aA) (ad:Own P w K mg base "ways_on" 3 ["end"] jC) (o0:Own P w K mg base "known" 1 ["facts", "name"] (xl aA)) (on:Own P w K mg base "part_of" 3 ["stretch", "word", "number", "side"] (xm K)) (or:Own P w K mg base "with_known" 2 ["facts", "name", "stretch"] (oz aA)):bA P w K mg base bY 4 f fd ["facts", "end"] (o9 aA):=by
  refine F.ok (k:=3) dD (λ vs H Q E h=>?_) (λ cdv A outer s H vs Q E hr h=>?_)
  . obtain⟨fv,ea,T,e,rfl,_⟩:=h
    rfl
  . obtain⟨fv,ea,T,e,rfl,hf,he,bV,q⟩:=h
    refine⟨_,(ai (aN (i:=2) dD.nd rfl (Hj rfl) (aw ad (hr.mono ⋯) rfl (aa (pv 1) ae)))
      (ai (aS (aB fP (aP aO rfl Z.len bM (aa (pv 2) ae)) ao (aG _))
      (ar (aF (bw bL rfl Z.tuple cL (aa (dA ["way"] ["facts"] [0] rfl (d5 (pv 2)) rfl ⋯ ⋯ ⋯ ⟨⟨rfl,.inl rfl,rfl⟩,True.intro⟩ (λ _ _ _ _=>(ay (i:=0) (show ((["way"]:List Str)++(["facts"]:List Str)).Nodup by decide) rfl (Hj rfl) (hf:=Hz rfl))) (λ _ _ _ _=>dG) (λ _ _ _ _=>(pv 1))) ae))))
      aK)
      (ai (cY (cA (aX (aa (aH aL (pv 1) ao (λ _ _=>rfl)) (aa (aH aL (pv 1) ao (λ _ _=>rfl)) (aa (aH aL (pv 1) ao (λ _ _=>rfl)) ae)))) (bX rfl (aJ (ay (i:=3) dD.nd rfl (Hz rfl)) (aJ (ay (i:=4) dD.nd rfl (Hz rfl)) (aJ (ay (i:=5) dD.nd rfl (Hz rfl)) bN))))))
      (ai (aN (i:=6) dD.nd rfl (Hz rfl) (aw o0 (hr.mono ⋯) rfl (aa (pv 0) (aa (pv 4) ae))))
      (ai (jw (i:=7) ["side"] ["stretch", "word", "number"] [6,3,5] rfl dD.nd rfl rfl rfl (d5 (aX (aa cM (aa cM ae)))) rfl ⋯ ⋯ ⋯ ⟨⟨rfl,.inl rfl,rfl⟩,⟨⟨rfl,.inl rfl,rfl⟩,⟨⟨rfl,.inl rfl,rfl⟩,True.intro⟩⟩⟩ (λ _ _ _ _=>(ay (i:=0) (show ((["side"]:List Str)++(["stretch", "word", "number"]:List Str)).Nodup by decide) rfl (Hj rfl) (hf:=Hz rfl))) (λ _ _ _ _=>dG) (λ _ _ _ _=>(aw on (hr.mono ⋯) rfl (aa (pv 1) (aa (pv 2) (aa (pv 3) (aa (pv 0) ae)))))))
      (ar (aF (bw bL rfl Z.tuple cL (aa (dA ["part"] ["facts", "name"] [0,4] rfl (jc (pv 7)) rfl ⋯ ⋯ ⋯ ⟨⟨rfl,.inl rfl,rfl⟩,⟨⟨rfl,.inl rfl,rfl⟩,True.intro⟩⟩ (λ _ _ _ _=>(ay (i:=0) (show ((["part"]:List Str)++(["facts", "name"]:List Str)).Nodup by decide) rfl (Hj rfl) (hf:=Hz rfl))) (λ _ _ _ _=>dG) (λ _ _ _ _=>(fT (cO (fw (pv 0))) cD (aw or (hr.mono ⋯) rfl (aa (pv 1) (aa (pv 2) (aa (pv 0) ae))))))) ae))))))))),?_⟩
    refine⟨_,rfl,ea,e,rfl,he,λ wt H1 hw s1=>?_⟩;have he1:=s1 _ _ he;have hf1:=hf.same s1;exists _,rfl,wt,_,rfl,.inr (au.of hw),_,_,rfl,rfl,_,rfl;by_cases hl:(aU e).length<2
    . refine bJ (decide_eq_true (by rw[Hk];omega)) ?_
      refine⟨_,rfl,wt,rfl,⟨_,au.of hw⟩,λ acc na=>?_⟩;refine jx (K:=K) (a:=wt) (xs:=(aU e).map λ k=>V.int (k:Nat)) (λ i zs Hi H'=>∃c:Option V,Hi=[c,some fv]/\zs=JE i fv/\H' acc=some (.lst zs)/\ah H1 H') ?_ ?_ ?_ ?_
      . exact⟨none,rfl,rfl,af,ah.new na⟩
      . rintro i zs Hi H2 hi ⟨c,rfl,rfl,ha,s2⟩
        exists au.of (s2 _ _ hw),ha;rw[JF];rw[Hk] at hi;exact bB ⋯
      . rintro i x zs Hi H2 hi ⟨c,rfl,rfl,ha,s2⟩
        refine cb ?_;refine gy ?_;refine bf ?_;refine⟨_,rfl,ha,_,rfl,?_,af,s2.put na⟩;rw[<-List.replicate_succ']
      . rintro zs Hi H2 ⟨c,rfl,rfl,ha,s2⟩
        rw[Hk] at ha;refine⟨acc,_,rfl,.inl ⟨aT.of ha,λ t nt=>?_⟩⟩;refine q t _ _ af ?_ ((s1.trans s2).trans (ah.new nt));rw[DJ hl];exact xn (hf1.same (s2.trans (ah.new nt))) _
    . refine aY (decide_eq_false (by rw[Hk];omega)) ?_
      cases e with
      | stop=>exact absurd (by show 0<2;omega) hl
      | go p=>exact absurd (by show 1<2;omega) hl
      | aR b x n p r =>
        exists λ σ' H'=>σ' = [some fv,some (.ref ea),some (.ref wt),some (.str (wT b)),some (.str x),some (.int n),none,none]/\ah H1 H',?_
        . refine⟨_,rfl,ea,_,0,_,rfl,rfl,au.of he1,cg,_,rfl,ea,_,1,_,rfl,rfl,au.of he1,cB,_,rfl,ea,_,2,_,rfl,rfl,au.of he1,at2,sG,λ tt htt=>?_⟩
          exact⟨tt,_,rfl,au.of af,rfl,_,_,rfl,_,_,rfl,_,_,rfl,rfl,rfl,ah.new htt⟩
        rintro σ' H2 ⟨rfl,s2⟩;refine⟨_,rfl,_,rfl,fv,x,T,rfl,hf1.same s2,λ sv H3 hsv s3=>?_⟩;obtain⟨sp,rfl,hsp⟩:=hsv.sq GA;have s13:=s2.trans s3;refine⟨ln2,λ st hst=>⟨st,rfl,⟨_,au.of af⟩,λ acc na=>?_⟩⟩;have s4:=ah.new (o:=.tup [.bl true,.bl false]) hst;have hst4:(upd H3 st (.tup [.bl true,.bl false])) st=some (.tup [.bl true,.bl false]):=af;generalize (upd H3 st (.tup [.bl true,.bl false]))=H4 at s4 hst4 na;refine jx (K:=K) (a:=st) (xs:=[.bl true,.bl false]) (λ i zs Hi H'=>∃c:Option V,Hi=[c,some (.ref sp),some (.str (wT b)),some (.int n)]/\oA H' zs ([cW T b x n true,cW T b x n false].take i)/\H' acc=some (.lst zs)/\ah H4 H') ?_ ?_ ?_ ?_
        . exact⟨none,rfl,.nil,af,ah.new na⟩
        . rintro i zs Hi H5 hi ⟨c,rfl,rv,ha,s5⟩
          exists au.of (s5 _ _ hst4),ha;have h1:=Paired.length rv;rw[HP] at h1;exact bB (by rw[h1];exact Hu (Nat.min_le_right _ _) (by show 2<=1000;decide))
        . rintro i y zs Hi H5 hi ⟨c,rfl,rv,ha,s5⟩
          obtain⟨side,rfl,hsd⟩:∃side:Bool,y=.bl side/\[cW T b x n true,cW T b x n false][i]?=some (cW T b x n side):=by
            match i,hi with
            | 0,hi=>cases hi;exact⟨true,rfl,rfl⟩
            | 1,hi=>cases hi;exact⟨false,rfl,rfl⟩
            | i+2,hi=>simp at hi
          refine cb ?_;refine gy ?_;refine bf ?_;refine⟨_,rfl,_,rfl,_,rfl,_,rfl,sp,wT b,n,side,_,_,rfl,hsp.same (s4.trans s5),λ v H6 r6 s6=>?_⟩;have ha6:=s6 _ _ ha;refine⟨ha6,_,rfl,?_,af,(s5.trans s6).put na⟩;rw[HM,hsd];exact dY ((rv.same s6).put ha6) (.cons (RV.put r6 ha6) .nil)
        . rintro zs Hi H5 ⟨c,rfl,rv,ha,s5⟩
          have s15:=s13.trans (s4.trans s5);have rv:oA H5 zs [cW T b x n true,cW T b x n false]:=rv;have rvl:zs.length=2:=Paired.length rv;refine⟨_,rfl,acc,rfl,⟨_,aT.of ha⟩,λ ac2 na2=>?_⟩;refine ky (K:=K) (a:=acc) (xs:=zs) (λ i us Hi H'=>∃c:Option V,Hi=[c,some fv,some (.str x)]/\mf H' us ((gN T (.aR b x n p r)).take i)/\H' ac2=some (.lst us)/\ah H5 H') ?_ ?_ ?_ ?_
          . exact⟨none,rfl,.nil,af,ah.new na2⟩
          . rintro i us Hi H6 hi ⟨c,rfl,bv,ha2,s6⟩
            exists aT.of (s6 _ _ ha),ha2;have h1:=Paired.length bv;rw[HP] at h1;exact bB (by rw[h1];exact Hu (Nat.min_le_right _ _) (by show 2<=1000;decide))
          . rintro i y us Hi H6 hi ⟨c,rfl,bv,ha2,s6⟩
            obtain⟨rs,hrs,hry⟩:=en rv hi;have hb:(gN T (.aR b x n p r))[i]?=some (rs.map (b8 T x)):=by
              show ([cW T b x n true,cW T b x n false].map λ z:Rs=>Option.map (b8 T x) z)[i]?=_;rw[HC,hrs];rfl
            refine cb ?_;refine gy ?_;refine bf ?_;cases rs with
            | none =>
              cases (show y=V.aZ from hry);refine⟨_,rfl,_,rfl,bf ?_⟩;refine⟨ha2,_,rfl,?_,af,s6.put na2⟩;rw[HM,hb];refine dY (bv.aM λ p zs e=>?_) (.cons rfl .nil);rw[av (bP e ha2 (by intro z;cases z))];exact e
            | some s =>
              have hsv6:SV aA H6 y s:=RV.sv (hry.same s6);obtain⟨yp,rfl,hyp⟩:∃yp,y=.ref yp/\True:=by
                obtain⟨a1,b1⟩:=s;obtain⟨yp,e,_⟩:=hry;exact⟨yp,e,trivial⟩
              refine⟨_,rfl,_,rfl,br ?_⟩;refine⟨_,rfl,_,rfl,_,rfl,fv,.ref yp,x,T,s,rfl,hf1.same (s13.trans (s4.trans (s5.trans s6))),hsv6,bV,λ v H7 f7 s7=>?_⟩;have ha7:=s7 _ _ ha2;refine⟨ha7,_,rfl,?_,af,(s6.trans s7).put na2⟩;rw[HM,hb];have kt:∀p zs,H7 p=some (.tup zs)->(upd H7 ac2 (.lst (us++[v]))) p=some (.tup zs):=λ p zs e=>by rw[av (bP e ha7 (by intro z;cases z))];exact e
              exact dY ((bv.same s7).aM kt) (.cons (FV.aM f7 kt) .nil)
          . rintro us Hi H6 ⟨c,rfl,bv,ha2,s6⟩
            rw[rvl] at bv;refine⟨ac2,_,rfl,.inl ⟨aT.of ha2,λ t nt=>?_⟩⟩;exact q t _ _ af (mf.same (show mf H6 us (gN T (.aR b x n p r)) from bv) (ah.new nt)) ((s1.trans (s15.trans s6)).trans (ah.new nt))
theorem Cq {f:Addr} {fd:FuncData} (F:b4 K "leads" "leads" rS f fd) (Z:Bl mg) (ci:Own P w K mg base "known_beyond" 4 ["facts", "end"] (o9 aA)) (ad:Own P w K mg base "ways_on" 3 ["end"] jC):bA P w K mg base bY 5 f fd ["facts", "end"] (rJ aA):=by
  refine F.ok (k:=4) vL (λ vs H Q E h=>?_) (λ cdv A outer s H vs Q E hr h=>?_)
  . obtain⟨fv,ea,T,e,rfl,_⟩:=h
    rfl
  . obtain⟨fv,ea,T,e,rfl,hf,he,bV,q⟩:=h
    refine⟨_,(ai (aN (i:=2) vL.nd rfl (Hj rfl) (aw ci (hr.mono ⋯) rfl (aa (pv 0) (aa (pv 1) ae))))
      (ar (aF (bw bL rfl Z.tuple cL (aa (dA ["way", "there"] [] [] rfl (uP rfl Z.zip (aa (aw ad (hr.mono ⋯) rfl (aa (pv 1) ae)) (aa (pv 2) ae))) rfl ⋯ ⋯ ⋯ True.intro (λ _ _ _ _=>(kA (K:=K) (n:=2) rfl (bX (n:=2) rfl (aJ (ay (i:=0) (show ((["way", "there"]:List Str)++([]:List Str)).Nodup by decide) rfl (Hj rfl) (hf:=Hz rfl)) (aJ (ay (i:=1) (show ((["way", "there"]:List Str)++([]:List Str)).Nodup by decide) rfl (Hj rfl) (hf:=Hz rfl)) bN))))) (λ _ _ _ _=>(qW (cO (cX (pv 1))))) (λ _ _ _ _=>(aX (aa (pv 0) (aa (pv 1) ae))))) ae))))),?_⟩
    refine⟨_,rfl,_,rfl,fv,ea,T,e,rfl,hf,he,bV,λ bt us H1 hb bv s1=>?_⟩;refine⟨_,rfl,ea,e,rfl,s1 _ _ he,λ wt H2 hw s2=>?_⟩;have hb2:=s2 _ _ hb;have bv2:=bv.same s2;refine⟨_,rfl,wt,bt,rfl,⟨_,au.of hw⟩,⟨_,au.of hb2⟩,λ acc na=>?_⟩;refine uQ (K:=K) (a:=wt) (b:=bt) (xs:=(aU e).map λ k=>V.int (k:Nat)) (ys:=us) (λ i zs Hi H'=>∃(c1 c2:Option V),Hi=[c1,c2]/\mX H' zs ((((aU e).zip (gN T e)).take i).filterMap λ p=>p.2.map λ U=>(p.1,U))/\zs.length<=i/\H' acc=some (.lst zs)/\ah H2 H') ?_ ?_ ?_ ?_
    . exact⟨none,none,rfl,.nil,Hn _,af,ah.new na⟩
    . rintro i zs Hi H3 hi ⟨c1,c2,rfl,pv,hz,ha,s3⟩
      exists au.of (s3 _ _ hw),au.of (s3 _ _ hb2),ha;have h1:i<=(aU e).length:=by rw[Hk] at hi;omega
      have h2:(aU e).length<=2:=by cases e<;>(show _<=2)<;>simp[aU]
      exact bB ⋯
    . rintro i x y zs Hi H3 u hx hy hu ⟨c1,c2,rfl,pv,hz,ha,s3⟩
      obtain⟨k,hk,rfl⟩:∃k,(aU e)[i]?=some k/\x=V.int (k:Nat):=by
        rw[HC] at hx;cases z:(aU e)[i]? with
        | none=>rw[z] at hx;cases hx
        | some k=>rw[z] at hx;exact⟨k,rfl,(HB.inj hx).symm⟩
      obtain⟨o,ho,hyo⟩:=en bv2 hy;have hnext:=Ad (T:=T) hk ho;have su:=ah.new (o:=.tup [.int (k:Nat),y]) hu;have hu4:(upd H3 u (.tup [.int (k:Nat),y])) u=some (.tup [.int (k:Nat),y]):=af;generalize (upd H3 u (.tup [.int (k:Nat),y]))=H4 at su hu4;exists u,_,rfl,au.of hu4,rfl,_,_,rfl,_,_,rfl,rfl;exists _,rfl,_,rfl;cases o with
      | none =>
        cases (show y=V.aZ from hyo);refine br ?_;refine⟨_,_,rfl,?_,JW hz,su _ _ ha,s3.trans su⟩;rw[hnext];simpa using pv.same su
      | some U =>
        obtain⟨yp,zsy,ssy,rfl,_⟩:=id hyo;refine bf ?_;refine⟨_,rfl,_,rfl,ln2,λ t nt=>?_⟩;have s5:=ah.new (o:=.tup [.int (k:Nat),.ref yp]) nt;have ht:(upd H4 t (.tup [.int (k:Nat),.ref yp])) t=some (.tup [.int (k:Nat),.ref yp]):=af;generalize (upd H4 t (.tup [.int (k:Nat),.ref yp]))=H5 at s5 ht;have ha5:=s5 _ _ (su _ _ ha);have kt:∀p ws,H5 p=some (.tup ws)->(upd H5 acc (.lst (zs++[V.ref t]))) p=some (.tup ws):=λ p ws e=>by rw[av (bP e ha5 (by intro z;cases z))];exact e
        refine⟨ha5,_,_,rfl,?_,(by rw[Ht];show _+1<=_;omega),af,(s3.trans (su.trans s5)).put na⟩;rw[hnext];exact dY ((pv.same (su.trans s5)).aM kt) (.cons ⟨t,.ref yp,rfl,kt _ _ ht,FV.aM (FV.same hyo (s3.trans (su.trans s5))) kt⟩ .nil)
    . rintro zs Hi H3 ⟨c1,c2,rfl,pv,hz,ha,s3⟩
      have hm:min ((aU e).map λ k=>V.int (k:Nat)).length us.length=((aU e).zip (gN T e)).length:=by
        rw[List.length_zip,Hk,Paired.length bv2]
      rw[hm,HW] at pv;refine⟨acc,_,rfl,.inl ⟨aT.of ha,λ t nt=>?_⟩⟩;exact q t zs _ af (mX.same (show mX H3 zs (cQ T e) from pv) (ah.new nt)) (((s1.trans s2).trans s3).trans (ah.new nt))
theorem Cr {f:Addr} {fd:FuncData} (F:b4 K "start" "start" rT f fd) (Z:Bl mg) (oK:Own P w K mg base "names_of" 3 ["plan"] sR):bA P w K mg base bY 4 f fd ["plan"] xo:=by
 refine F.ok (k:=3) Cj (λ vs H Q E h=>?_) (λ cdv A outer s H vs Q E hr h=>?_)
 ·obtain⟨plv,ps,xs,m,rfl,_⟩:=h;rfl
 ·obtain⟨plv,ps,xs,m,rfl,hp,pok,hx,hal,q⟩:=h;exists _,(ar (aF (bw bL rfl Z.tuple cL (aa (dA ["name"] [] [] rfl (d5 (aw oK (hr.mono ⋯) rfl (aa (pv 0) ae))) rfl ⋯ ⋯ ⋯ True.intro (λ _ _ _ _=>(ay (i:=0) (show ((["name"]:List Str)++([]:List Str)).Nodup by decide) rfl (Hj rfl) (hf:=Hz rfl))) (λ _ _ _ _=>dG) (λ _ _ _ _=>(aX (aa (pv 0) (aa (aX (aa ao (aa ao ae))) ae))))) ae))));refine⟨_,rfl,plv,ps,xs,m,rfl,hp,pok,hx,hal,λ nt ss H1 hnt hperm hsort hsl s1=>?_⟩;refine⟨nt,rfl,⟨_,au.of hnt⟩,λ acc na=>?_⟩;refine jx (K:=K) (a:=nt) (xs:=ss.map V.str) (λ i zs Hi H'=>∃c:Option V,Hi=[c]/\bp H' zs ((ss.take i).map λ x=>.tuple [.str x,.tuple [.int 0,.int 0]])/\H' acc=some (.lst zs)/\ah H1 H') ?_ ?_ ?_ ?_
  ·exact⟨none,rfl,.nil,af,ah.new na⟩
  ·rintro i zs Hi H2 hi ⟨c,rfl,r,ha,s2⟩;exists au.of (s2 _ _ hnt),ha;have h1:=r.len;rw[Hk,HP] at h1;exact bB ⋯
  ·rintro i x zs Hi H2 hi ⟨c,rfl,r,ha,s2⟩;obtain⟨y,hy,rfl⟩:∃y,ss[i]?=some y/\x=V.str y:=by
    rw[HC] at hi;cases e:ss[i]? with
    | none=>rw[e] at hi;cases hi
    | some k=>rw[e] at hi;exact⟨k,rfl,(HB.inj hi).symm⟩
   refine cb ?_;refine gy ?_;refine bf ?_;refine⟨_,rfl,ln2,λ t1 n1=>⟨ln2,λ t2 n2=>?_⟩⟩;have q1:=ah.new (o:=.tup [.int 0,.int 0]) n1;have q2:=ah.new (o:=.tup [.str y,.ref t1]) n2;have ha3:=q2 _ _ (q1 _ _ ha);have kt:∀p ws,(upd (upd H2 t1 (.tup [.int 0,.int 0])) t2 (.tup [.str y,.ref t1])) p=some (.tup ws)->(upd (upd (upd H2 t1 (.tup [.int 0,.int 0])) t2 (.tup [.str y,.ref t1])) acc (.lst (zs++[V.ref t2]))) p=some (.tup ws):=λ p ws e=>by rw[av (bP e ha3 (by intro z;cases z))];exact e
   refine⟨ha3,_,rfl,?_,af,((s2.trans q1).trans q2).put na⟩;rw[HM,hy,HA];exact (((r.same q1 (hG _)).same q2 (hG _)).aM kt (hG _)).app (.tup (kt _ _ af) (.cons (.str _) (.cons (.tup (kt _ _ (q2 _ _ af)) (.cons (.int _) (.cons (.int _) .nil))) .nil)))
  ·rintro zs Hi H2 ⟨c,rfl,r,ha,s2⟩;rw[Hk,HW] at r;refine⟨acc,_,rfl,.inl ⟨aT.of ha,λ t ht=>?_⟩⟩;exact q (.ref t) ss _ (.tup af (r.same (ah.new ht) (hG _))) hperm hsort ((s1.trans s2).trans (ah.new ht))
theorem qN {f:Addr} {fd:FuncData} (F:b4 K "__init__" "Row.__init__" iF f fd) (Z:Bl mg) {C:Addr} (T:vo K C)  : bA P w K mg base bY 1 f fd ["self", "first"] (qu P w C):=by
 refine F.ok (k:=0) qJ (λ vs H Q E h=>?_) (λ cdv A outer s H vs Q E hr h=>?_)
 ·obtain⟨r,dx,k,d0,rfl,_⟩:=h;rfl
 ·obtain⟨r,dx,k,d0,rfl,hr0,hk,rd,nl,q⟩:=h;refine⟨_,(ai (y9 (pv 0) (cU (aa (pv 1) ae)) rfl)
   (ar (y9 (pv 0) (BP (vw hr) (Bh (pv 1) ao Dv) rfl rfl (List.cons_ne_nil _ _) (by show 1<=15;decide)) rfl))),?_⟩
  refine⟨_,rfl,og,λ m nm=>?_⟩;have s1:=ah.new (o:=.lst [.ref k]) nm;have hm1:(upd H m (.lst [.ref k])) m=some (.lst [.ref k]):=af;have nrm:r≠m:=aQ hr0 nm;have rd1:=rd.same s1 nl;generalize (upd H m (.lst [.ref k]))=H1 at s1 hm1 rd1;have hr1:=s1 _ _ hr0;exists _,rfl,r,C,dx,_,rfl,hr1,T.cl,T.members,(by show 0<1000;decide);have kt1:∀p zs,H1 p=some (.tup zs)->∀o,(upd H1 r o) p=some (.tup zs):=λ p zs e o=>by rw[av (bP e hr1 (by intro z;cases z))];exact e
  refine λ d nd=>?_
  have ndr:r≠d:=λ z=>by rw[<-z,af] at nd;cases nd
  have nd1:H1 d=none:=by rw[av ndr.symm] at nd;exact nd
  have ndm:d≠m:=λ z=>by rw[z,hm1] at nd1;cases nd1
  have kt2:∀p zs,H1 p=some (.tup zs)->∀o o',(upd (upd H1 r o) d o') p=some (.tup zs):=λ p zs e o o'=>by rw[av (aQ e nd1)];exact kt1 p zs e o
  exists _,rfl,af,k,.int 0,d0,rfl,hk,rd1.aM (λ p zs e=>kt2 p zs e _ _) nl;exists _,rfl,r,C,dx,_,rfl,(by rw[av ndr,av ndr,af]),T.cl,T.places,(by rw[qt];show 1<1000;decide);refine q m d _ ⟨⟨dx,by rw[af,qt,zY]⟩,?_,?_,λ p hp=>?_⟩ (λ c o e n=>?_) nm (s1.free nd1)
  ·rw[av nrm.symm,av ndm.symm,av ndm.symm,av nrm.symm];exact hm1
  ·rw[av ndr.symm,af];rfl
  ·rw[Hm.mp hp];refine⟨hk,rd1.aM (λ p zs e=>?_) nl⟩;have hpr:p≠r:=bP e hr1 (by intro z;cases z);have hpd:p≠d:=aQ e nd1;rw[av hpr,av hpd,av hpd,av hpr];exact e
  ·rw[av n,av (aQ (s1 _ _ e) nd1),av (aQ (s1 _ _ e) nd1),av n];exact s1 _ _ e
theorem qO {f:Addr} {fd:FuncData} (F:b4 K "place_of" "Row.place_of" iG f fd) (Z:Bl mg) {C:Addr} (T:vo K C)  : bA P w K mg base bY 1 f fd ["self", "thing"] (qw P w C):=by
  refine F.ok (k:=0) qK (λ vs H Q E h=>?_) (λ cdv A outer s H vs Q E hr h=>?_)
  . obtain⟨r,m,d,k,d0,ms,rfl,_⟩:=h
    rfl
  . obtain⟨r,m,d,k,d0,ms,rfl,A,hms,hk,rd,nl,nls,q⟩:=h
    refine⟨_,(ai (aS (aB (yA (vw hr)) (pv 1) (hV (pv 0) rfl) (by with_unfolding_all rfl))
      (ai (cA (aP aO rfl Z.len bM (aa (hV (pv 0) rfl) ae)) (hR (hV (pv 0) rfl) (pv 1) (BG (vw hr))))
      (ar (eD (gI PySem.F.plainAttrs_list PySem.F.slot_list_append PySem.F.type_list_append fW (hV (pv 0) rfl) (aa (pv 1) ae)))))
      aK)
      (ar (aF (DF (vw hr) (hV (pv 0) rfl) (pv 1) (λ _ _=>rfl))))),?_⟩
    obtain⟨dx,hob⟩:=A.ob;obtain⟨n1,n2,n3⟩:=A.He;have hml:(ms.map λ p=>V.ref p.2).length=ms.length:=Hk ..;have hv:=lC d0 0 ms;exists _,rfl,_,rfl,r,C,dx,_,_,rfl,hob,T.cl,T.places,iU,k,d,d0,dH 0 ms,rfl,rfl,⟨A.mZ,A.kn,hk,rd⟩,_,rfl;by_cases hm:d0∈ms.map (·.1)
    . rw[if_pos hm] at hv
      refine aY (by rw[hv];rfl) ?_;have e:lF ms d0 k=ms:=by unfold lF;rw[if_pos hm]
      rw[e] at q;exists _,rfl,r,C,dx,_,_,rfl,hob,T.cl,T.places,iU,_,rfl,k,d,d0,dH 0 ms,_,rfl,rfl,⟨A.mZ,A.kn,hk,rd⟩,hv;rw[Nat.zero_add];exact q H A lB.refl
    . rw[if_neg hm] at hv
      refine bJ (by rw[hv];rfl) ?_;exists _,rfl,r,C,dx,_,_,rfl,hob,T.cl,T.members,ia,m,_,rfl,.inl (aT.of A.mem),_,rfl,r,C,dx,_,_,rfl,hob,T.cl,T.places,iU,_,rfl,k,d,d0,dH 0 ms,rfl,rfl,⟨A.mZ,A.kn,hk,rd⟩,bB (by rw[ph];omega);have eput:putD (dH 0 ms) d0 k (.int ((ms.map λ p=>V.ref p.2).length:Nat))=dH 0 (ms++[(d0,k)]):=by
        unfold putD;rw[hv,vx,hml,Nat.zero_add];rfl
      rw[eput];change (_:Hp->Prop) (upd H d (fG P w d (dH 0 (ms++[(d0,k)]))));have hob1:(upd H d (fG P w d (dH 0 (ms++[(d0,k)])))) r=some (.ins C dx (rD (.ref m) (.ref d))):=by rw[av n2];exact hob
      have hm1:(upd H d (fG P w d (dH 0 (ms++[(d0,k)])))) m=some (.lst (ms.map λ p=>V.ref p.2)):=by rw[av n3.symm];exact A.mem
      exists _,rfl,r,C,dx,_,_,rfl,hob1,T.cl,T.members,ia,.inl ⟨rfl,_,aT.of hm1⟩,_,rfl,m,_,_,rfl,rfl,hm1,bB ⋯;have e:lF ms d0 k=ms++[(d0,k)]:=by unfold lF;rw[if_neg hm]
      rw[e] at q;have kt:∀p zs,H p=some (.tup zs)->∀o o',(upd (upd H d o) m o') p=some (.tup zs):=λ p zs h o o'=>by
        rw[av (bP h A.mem (by intro z;cases z)),av (bP h A.mZ (by intro z;cases z))];exact h
      have keys:∀(H':Hp),(∀p zs,H p=some (.tup zs)->H' p=some (.tup zs))->∀p∈ms++[(d0,k)],gK p.1/\bg H' (.ref p.2) p.1:=λ H' kt' p hp=>by
        rcases HI.mp hp with hp | hp
        . exact⟨(A.keys p hp).1,(A.keys p hp).2.aM kt' (nls p hp)⟩
        . rw[Hm.mp hp];exact⟨hk,rd.aM kt' nl⟩
      have A2:ib P w C (upd (upd H d (fG P w d (dH 0 (ms++[(d0,k)])))) m (.lst ((ms.map λ p=>V.ref p.2)++[.ref k]))) r m d (ms++[(d0,k)]) :=
        ⟨⟨dx,by rw[av n1];exact hob1⟩,by rw[af,HA];rfl,by rw[av n3,af],keys _ λ p zs h=>kt p zs h _ _⟩
      have hv2:=lC d0 0 (ms++[(d0,k)]);rw[if_pos (by rw[HA];exact HS _ (Hm.mpr rfl)),Nat.zero_add] at hv2;obtain⟨dx2,hob2⟩:=A2.ob;exists _,rfl,r,C,dx2,_,_,rfl,hob2,T.cl,T.places,iU,_,rfl,k,d,d0,_,_,rfl,rfl,⟨A2.mZ,A2.kn,hk,(A2.keys (d0,k) (HS _ (Hm.mpr rfl))).2⟩,hv2;exact q _ A2 λ c o h c1 c2=>by rw[av c1,av c2];exact h
theorem yP {f:Addr} {fd:FuncData} (F:b4 K "reached" "reached" nq f fd) (Z:Bl mg) (ad:Own P w K mg base "ways_on" 3 ["end"] jC):bA P w K mg base bY 4 f fd ["plan"] tf:=by
  refine b4.Hd F (k:=3) ik (λ vs H Q E h=>?_) (λ cdv A outer s H vs Q E hcd hr h=>?_)
  . obtain⟨plv,ps,rfl,_⟩:=h
    rfl
  . obtain⟨plv,ps,rfl,hp,hin,hn0,hn,q⟩:=h
    refine⟨_,(ai (aN (i:=1) ik.nd rfl (Hj rfl) (DN hcd ao))
      (ai (aN (i:=2) ik.nd rfl (Hj rfl) (cU (aa ao ae)))
      (ai (uG PassesOwn.never (AM (pv 2) (λ _=>rfl))
      (ai (aN (i:=3) ik.nd rfl (Hj rfl) (EC PySem.F.plainAttrs_list PySem.F.slot_list_pop PySem.F.type_list_pop ED (pv 2)))
      (ar (dJ PassesOwn.never rfl (d5 (aw ad (hr.mono ⋯) rfl (aa (aH aL (aH aL (pv 0) (pv 3) (λ _ _=>rfl)) ao (λ _ _=>rfl)) ae))) (ay (i:=4) ik.nd rfl (Hj rfl))
      (ar (aS (aB zT (pv 4) (pv 1) (by with_unfolding_all rfl))
      (ai (eD (zU PySem.F.slot_set_add PySem.F.type_set_add xf (pv 1) (aa (pv 4) ae)))
      (ar (eD (gI PySem.F.plainAttrs_list PySem.F.slot_list_append PySem.F.type_list_append fW (pv 2) (aa (pv 4) ae)))))
      aK))))))
      (ar (aF (bw bL rfl Z.tuple cL (aa (aP (lY rfl) rfl Z.sorted gY (aa (pv 1) ae)) ae))))))),?_⟩
    obtain⟨pp,vs,rfl,e1,r1⟩:=bg.bQ hp;have hvl:=r1.len;rw[Hk] at hvl;refine λ fs nfs=>?_
    exists af,Sum.inl (0:Int),rfl;change (_:Hp->Prop) (upd (upd H fs (cV P w fs [])) fs (cV P w fs [Sum.inl (0:Int)]));rw[CY];have s1:=ah.new (o:=cV P w fs [Sum.inl (0:Int)]) nfs;have hf1:(upd H fs (cV P w fs [Sum.inl (0:Int)])) fs=some (cV P w fs (kI [0])):=af;generalize (upd H fs (cV P w fs [Sum.inl (0:Int)]))=H1 at s1 hf1;refine⟨og,λ wl nwl=>?_⟩;have s2:=ah.new (o:=.lst [.int 0]) nwl;have hf2:=s2 _ _ hf1;have hw2:(upd H1 wl (.lst [.int 0])) wl=some (.lst (vN [0])):=af;have nfw:fs≠wl:=aQ hf1 nwl;have nwH:H wl=none:=s1.free nwl;have s12:=s1.trans s2;generalize (upd H1 wl (.lst [.int 0]))=H2 at s2 hf2 hw2 s12;exists λ m Hh H'=>∃(ks ws:List Nat) (u1 u2:Option V),Hh=[some (.ref pp),some (.ref fs),some (.ref wl),u1,u2]/\H' fs=some (cV P w fs (kI ks))/\H' wl=some (.lst (vN ws))/\yC ps ks ws/\m=2*(ps.length-ks.length)+ws.length/\ws.length<=ks.length/\ah H H',⟨_,[0],[0],_,_,rfl,hf2,hw2,⟨by simp,λ k hk=>by rw[Hm.mp hk];exact hn0,λ k hk=>by rw[Hm.mp hk];exact .zero,by simp,λ k hk=>hk,λ k hk=>.inl hk⟩,rfl,Hn _,s12⟩;rintro m Hh H3 ⟨ks,ws,u1,u2,rfl,hf3,hw3,sk,hm,hwk,s3⟩;have hkn:=gZ sk.nd sk.lt;exists _,rfl,!(vN ws).isEmpty,.inl ⟨_,aT.of hw3,rfl⟩
    rcases (show ws=[]\/∃ws' at_,ws=ws' ++ [at_] from (List.eq_nil_or_concat ws).imp id λ ⟨a,b,h⟩=>⟨a,b,by rw[h,List.concat_eq_append]⟩) with rfl | ⟨ws',at_,rfl⟩
    . refine aY rfl ?_
      refine⟨_,rfl,fs,ks.map (λ k:Nat=>(k:Int)),rfl,(by rw[hf3,xq];rfl),(by rw[Hk];omega),λ l ss hperm _ nl=>?_⟩;obtain⟨ms,rfl,hms⟩:=m5 hperm;refine⟨l,_,rfl,.inl ⟨aT.of af,?_⟩⟩;rw[<-z6];intro t nt;refine q t ms _ af (λ k=>(hms.mem_iff).trans (sk.all k)) (λ k hk=>sk.lt k (hms.mem_iff.mp hk)) (by rw[hms.length_eq];omega) ((s3.trans (ah.new nl)).trans (ah.new nt))
    . have hwl:(ws' ++ [at_]).length=ws'.length+1:=by rw[Ht];rfl
      have hev:vN (ws' ++ [at_])=vN ws' ++ [V.int (at_:Nat)]:=by show (ws' ++ [at_]).map _=_;rw[HA];rfl
      refine bJ (by rw[hev];cases vN ws'<;>rfl) ?_;have hak:at_∈ks:=sk.sub at_ (HS _ (Hm.mpr rfl));have hat:=sk.lt at_ hak;have hps:ps[at_]?=some ps[at_]:=by simp[hat]
      generalize ps[at_]=pce at hps;obtain⟨ds,e⟩:=pce;obtain⟨p',xs',pc,da,ea,wsv,ep,e1',el',hx',e2,e3,r3,e4⟩:=fE hp hps;cases ep;rw[e1] at e1';cases e1';exists λ σ' H'=>∃(ks' ws2:List Nat) (u1 u2:Option V),σ' = [some (.ref pp),some (.ref fs),some (.ref wl),u1,u2]/\H' fs=some (cV P w fs (kI ks'))/\H' wl=some (.lst (vN ws2))/\yC ps ks' ws2/\2*(ps.length-ks'.length)+ws2.length<m/\ws2.length<=ks'.length/\ah H H',λ σ' H' ⟨ks',ws2,u1,u2,h1,h2,h3,h4,h5,h6,h7⟩=>⟨_,h5,ks',ws2,u1,u2,h1,h2,h3,h4,rfl,h6,h7⟩;exists _,rfl,.inl ⟨rfl,_,aT.of hw3⟩,wl,_,.int (at_:Nat),rfl,rfl,hw3,(by rw[hev];simp);have hdl:(vN (ws' ++ [at_])).dropLast=vN ws':=by rw[hev,List.dropLast_concat]
      rw[hdl];have hw4:(upd H3 wl (.lst (vN ws'))) wl=some (.lst (vN ws')):=af;have hf4:(upd H3 wl (.lst (vN ws'))) fs=some (cV P w fs (kI ks)):=by rw[av nfw];exact hf3
      have s4:ah H (upd H3 wl (.lst (vN ws'))):=s3.put nwH;generalize (upd H3 wl (.lst (vN ws')))=H4 at hw4 hf4 s4;refine⟨_,rfl,_,rfl,pp,_,_,_,rfl,rfl,au.of (s4 _ _ e1),bH hx',pc,_,1,_,rfl,rfl,au.of (s4 _ _ e2),cB,ea,e,rfl,s4 _ _ e4,λ wt H5 hwt s5=>?_⟩;refine⟨wt,rfl,⟨_,au.of hwt⟩,fM (K:=K) (a:=wt) (xs:=vN (aU e)) (λ i Hh H'=>∃(ks' add:List Nat) (u2:Option V),Hh=[some (.ref pp),some (.ref fs),some (.ref wl),some (.int (at_:Nat)),u2]/\H' fs=some (cV P w fs (kI ks'))/\H' wl=some (.lst (vN (ws' ++ add)))/\ks' = ks++add/\ks'.Nodup/\(∀k∈ks',k<ps.length)/\(∀k∈add,m3 ps k)/\(∀k∈(aU e).take i,k∈ks')/\(∀c o,H5 c=some o->c≠fs->c≠wl->H' c=some o)) ?_ ?_ ?_ ?_⟩
      . exact⟨ks,[],_,rfl,s5 _ _ hf4,by rw[IX];exact s5 _ _ hw4,by rw[IX],sk.nd,sk.lt,(λ _ h=>nomatch h),(λ _ h=>by simp at h),λ c o h _ _=>h⟩
      . rintro i Hh H6 hi ⟨ks',add,u2,rfl,h1,h2,rfl,h4,h5,h6,h7,h8⟩
        exact au.of (h8 _ _ hwt (bP hwt (s5 _ _ hf4) (by intro z;cases z)) (bP hwt (s5 _ _ hw4) (by intro z;cases z)))
      . rintro i y Hh H6 hi ⟨ks',add,u2,rfl,h1,h2,rfl,h4,h5,h6,h7,h8⟩
        obtain⟨k0,hk0,rfl⟩:∃k,(aU e)[i]?=some k/\y=V.int (k:Nat):=by
          rw[HC] at hi;cases z:(aU e)[i]? with
          | none=>rw[z] at hi;cases hi
          | some k=>rw[z] at hi;exact⟨k,rfl,(HB.inj hi).symm⟩
        have hk0m:=Hy hk0;have hk0b:=rK hin hps k0 hk0m;have htk:(aU e).take (i+1)=(aU e).take i++[k0]:=by rw[HM,hk0];rfl
        refine cb ?_;refine⟨_,rfl,_,rfl,fs,_,Sum.inl (k0:Int),rfl,h1,rfl,λ b hb=>⟨_,rfl,?_⟩⟩;rw[vz] at hb;by_cases hm0:k0∈ks++add
        . refine aY (by rw[hb.mpr hm0];rfl) ?_
          refine⟨ks++add,add,_,rfl,h1,h2,rfl,h4,h5,h6,λ k hk=>?_,h8⟩;rw[htk] at hk
          rcases HI.mp hk with hk | hk
          . exact h7 k hk
          . rw[Hm.mp hk];exact hm0
        . refine bJ (by rw[JS.mpr λ z=>hm0 (hb.mp z)];rfl) ?_
          have hfew:=gZ h4 h5;exists _,rfl,⟨fs,_,rfl,h1⟩,_,rfl,fs,_,Sum.inl (k0:Int),rfl,rfl,h1,(by rw[Hk];exact Jo (show (ks++add).length+1<=1002 by omega) ⋯);rw[Ag,show LS.putIn (ks++add) k0=ks++(add++[k0]) by unfold LS.putIn;rw[if_neg hm0,Iq]];change (_:Hp->Prop) (upd H6 fs (cV P w fs (kI (ks++(add++[k0])))));have h27:(upd H6 fs (cV P w fs (kI (ks++(add++[k0]))))) wl=some (.lst (vN (ws' ++ add))):=by rw[av nfw.symm];exact h2
          have hal:(ws' ++ add).length<=200:=by
            rw[Ht] at hfew ⊢;omega
          exists _,rfl,.inl ⟨rfl,_,aT.of h27⟩,_,rfl,wl,_,_,rfl,rfl,h27,bB (by rw[Hk];omega);refine⟨_,add++[k0],_,rfl,by rw[av nfw,af],?_,rfl,?_,?_,?_,?_,λ c o h c1 c2=>by rw[av c2,av c1];exact h8 c o h c1 c2⟩
          . rw[af]
            show _=some (HO.lst ((ws' ++ (add++[k0])).map _));rw[<-Iq,HA];rfl
          . rw[<-Iq,IV]
            refine⟨h4,by simp,λ x hx y hy z=>?_⟩;rw[Hm.mp hy] at z;exact hm0 (z ▸ hx)
          . intro k hk
            rw[<-Iq] at hk
            rcases HI.mp hk with hk | hk
            . exact h5 k hk
            . rw[Hm.mp hk];exact hk0b
          . intro k hk
            rcases HI.mp hk with hk | hk
            . exact h6 k hk
            . rw[Hm.mp hk];exact .step (sk.Fc at_ hak) hps hk0m
          . intro k hk
            rw[htk] at hk;rw[<-Iq]
            rcases HI.mp hk with hk | hk
            . exact Ig _ (h7 k hk)
            . exact HS _ hk
      . rintro Hh H6 ⟨ks',add,u2,rfl,h1,h2,rfl,h4,h5,h6,h7,h8⟩
        rw[show (vN (aU e)).length=(aU e).length from Hk ..,HW] at h7;have hfew:=gZ h4 h5;refine⟨ks++add,ws' ++ add,_,_,rfl,h1,h2,⟨h4,h5,λ k hk=>?_,Ig _ sk.zero,λ k hk=>?_,λ k hk=>?_⟩,?_,?_,λ c o h=>?_⟩
        . rcases HI.mp hk with hk | hk
          . exact sk.Fc k hk
          . exact h6 k hk
        . rcases HI.mp hk with hk | hk
          . exact Ig _ (sk.sub k (Ig _ hk))
          . exact HS _ hk
        . rcases HI.mp hk with hk | hk
          . by_cases hka:k=at_
            . subst hka
              refine .inr λ ds' e' he' j hj=>?_
              rw[hps] at he';cases he';exact h7 j hj
            . rcases sk.done k hk with hw | hd
              . rcases HI.mp hw with hw | hw
                . exact .inl (Ig _ hw)
                . exact absurd (Hm.mp hw) hka
              . exact .inr λ ds' e' he' j hj=>Ig _ (hd ds' e' he' j hj)
          . exact .inl (HS _ hk)
        . rw[Ht] at hfew ⊢
          rw[Ht] at ⊢;rw[hwl] at hm;omega
        . rw[Ht,Ht]
          omega
        . exact h8 c o (s5 _ _ (s4 _ _ h)) (aQ h nfs) (aQ h nwH)
theorem Cs {f:Addr} {fd:FuncData} (F:b4 K "heads" "heads" rV f fd) (Z:Bl mg) (oN:Own P w K mg base "reached" 4 ["plan"] tf) (ad:Own P w K mg base "ways_on" 3 ["end"] jC):bA P w K mg base bY 5 f fd ["plan"] xr:=by
  refine F.ok (k:=4) lM (λ vs H Q E h=>?_) (λ cdv A outer s H vs Q E hr h=>?_)
  . obtain⟨plv,ps,rfl,_⟩:=h
    rfl
  . obtain⟨plv,ps,rfl,hp,hin,hn0,hn,q⟩:=h
    refine⟨_,(ai (aN (i:=1) lM.nd rfl (Hj rfl) (xY zR rfl Z.set zQ))
      (ai (dJ PassesOwn.never rfl (d5 (aw oN (hr.mono ⋯) rfl (aa (pv 0) ae))) (ay (i:=2) lM.nd rfl (Hj rfl))
      (ar (dJ PassesOwn.never rfl (d5 (aw ad (hr.mono ⋯) rfl (aa (aH aL (aH aL (pv 0) (pv 2) (λ _ _=>rfl)) ao (λ _ _=>rfl)) ae))) (ay (i:=3) lM.nd rfl (Hj rfl))
      (ar (aS (aB nG (pv 3) (pv 2) (aG _))
      (ar (eD (zU PySem.F.slot_set_add PySem.F.type_set_add xf (pv 1) (aa (pv 3) ae))))
      aK)))))
      (ar (aF (bw bL rfl Z.tuple cL (aa (aP (lY rfl) rfl Z.sorted gY (aa (pv 1) ae)) ae)))))),?_⟩
    obtain⟨pp,vs,rfl,e1,r1⟩:=bg.bQ hp;have hvl:=r1.len;rw[Hk] at hvl;refine⟨rfl,λ fs nfs=>?_⟩;change (_:Hp->Prop) (upd H fs (cV P w fs []));have s1:=ah.new (o:=cV P w fs []) nfs;have hf1:(upd H fs (cV P w fs [])) fs=some (cV P w fs (kI [])):=af;generalize (upd H fs (cV P w fs []))=H1 at s1 hf1;refine⟨_,rfl,_,ps,rfl,hp.same s1 (bW ps),hin,hn0,hn,λ t ks H2 ht hks hlt hkl s2=>?_⟩;have hf2:=s2 _ _ hf1;have s12:=s1.trans s2;refine⟨t,rfl,⟨_,au.of ht⟩,fM (K:=K) (a:=t) (xs:=vN ks) (λ i Hh H'=>∃(hs:List Nat) (u1 u2:Option V),Hh=[some (.ref pp),some (.ref fs),u1,u2]/\H' fs=some (cV P w fs (kI hs))/\hs.Nodup/\(∀k∈hs,k<ps.length)/\(∀k,k∈hs↔∃j∈ks.take i,∃ds e,ps[j]?=some (ds,e)/\k∈aU e/\k<=j)/\(∀c o,H2 c=some o->c≠fs->H' c=some o)) ?_ ?_ ?_ ?_⟩
    . exact⟨[],_,_,rfl,hf2,Jd,(λ _ h=>nomatch h),λ k=>⟨λ h=>(nomatch h),λ ⟨j,hj,_⟩=>(by simp at hj)⟩,λ c o h _=>h⟩
    . rintro i Hh H3 hi ⟨hs,u1,u2,rfl,h1,h2,h3,h4,h5⟩
      exact au.of (h5 _ _ ht (bP ht hf2 (by intro z;cases z)))
    . rintro i y Hh H3 hi ⟨hs,u1,u2,rfl,h1,h2,h3,h4,h5⟩
      obtain⟨at_,hat,rfl⟩:∃k,ks[i]?=some k/\y=V.int (k:Nat):=by
        rw[HC] at hi;cases z:ks[i]? with
        | none=>rw[z] at hi;cases hi
        | some k=>rw[z] at hi;exact⟨k,rfl,(HB.inj hi).symm⟩
      have hatl:=hlt at_ (Hy hat);have hps:ps[at_]?=some ps[at_]:=by simp[hatl]
      generalize ps[at_]=pce at hps;obtain⟨ds,e⟩:=pce;obtain⟨p',xs',pc,da,ea,wsv,ep,e1',el',hx',e2,e3,r3,e4⟩:=fE hp hps;cases ep;rw[e1] at e1';cases e1';have k3:∀p zs,H p=some (.tup zs)->H3 p=some (.tup zs):=λ p zs h=>h5 _ _ (s12 _ _ h) (bP (s12 _ _ h) hf2 (by intro z;cases z))
      refine cb ?_;refine⟨_,rfl,_,rfl,pp,_,_,_,rfl,rfl,au.of (k3 _ _ e1),bH hx',pc,_,1,_,rfl,rfl,au.of (k3 _ _ e2),cB,ea,e,rfl,k3 _ _ e4,λ wt H5 hwt s5=>?_⟩;refine⟨wt,rfl,⟨_,au.of hwt⟩,fM (K:=K) (a:=wt) (xs:=vN (aU e)) (λ j Hh H'=>∃(hs':List Nat) (u2:Option V),Hh=[some (.ref pp),some (.ref fs),some (.int (at_:Nat)),u2]/\H' fs=some (cV P w fs (kI hs'))/\hs'.Nodup/\(∀k∈hs',k<ps.length)/\(∀k,k∈hs'↔k∈hs\/(k∈(aU e).take j/\k<=at_))/\(∀c o,H5 c=some o->c≠fs->H' c=some o)) ?_ ?_ ?_ ?_⟩
      . exact⟨hs,_,rfl,s5 _ _ h1,h2,h3,λ k=>⟨.inl,λ h=>h.elim id λ ⟨z,_⟩=>by simp at z⟩,λ c o h _=>h⟩
      . rintro j Hh H6 hj ⟨hs',u2,rfl,g1,g2,g3,g4,g5⟩
        exact au.of (g5 _ _ hwt (bP hwt (s5 _ _ h1) (by intro z;cases z)))
      . rintro j y Hh H6 hj ⟨hs',u2,rfl,g1,g2,g3,g4,g5⟩
        obtain⟨k0,hk0,rfl⟩:∃k,(aU e)[j]?=some k/\y=V.int (k:Nat):=by
          rw[HC] at hj;cases z:(aU e)[j]? with
          | none=>rw[z] at hj;cases hj
          | some k=>rw[z] at hj;exact⟨k,rfl,(HB.inj hj).symm⟩
        have hk0m:=Hy hk0;have hk0b:=rK hin hps k0 hk0m;have htk:(aU e).take (j+1)=(aU e).take j++[k0]:=by rw[HM,hk0];rfl
        refine cb ?_;exists _,rfl,_,rfl,_,_,rfl,rfl,_,rfl;refine b5 (λ hc=>?_) (λ hc=>?_)
        . have hle:k0<=at_:=by have:=of_decide_eq_true hc;omega
          have hfew:=gZ g2 g3;exists _,rfl,⟨fs,_,rfl,g1⟩,_,rfl,fs,_,Sum.inl (k0:Int),rfl,rfl,g1,(by rw[Hk];exact Jo (show hs'.length+1<=1002 by omega) ⋯);rw[Ag];change (_:Hp->Prop) (upd H6 fs (cV P w fs (kI (LS.putIn hs' k0))));refine⟨LS.putIn hs' k0,_,rfl,af,BJ g2,λ k hk=>?_,λ k=>?_,λ c o h c1=>by rw[av c1];exact g5 c o h c1⟩
          . rcases LS.iT.mp hk with hk | hk
            . exact g3 k hk
            . rw[hk];exact hk0b
          . rw[LS.iT,g4,htk]
            constructor
            . rintro ((h | ⟨h,h'⟩) | rfl)
              . exact .inl h
              . exact .inr ⟨Ig _ h,h'⟩
              . exact .inr ⟨HS _ (Hm.mpr rfl),hle⟩
            . rintro (h | ⟨h,h'⟩)
              . exact .inl (.inl h)
              . rcases HI.mp h with h | h
                . exact .inl (.inr ⟨h,h'⟩)
                . exact .inr (Hm.mp h)
        . have hle:¬k0<=at_:=λ z=>hc (decide_eq_true ⋯)
          refine⟨hs',_,rfl,g1,g2,g3,λ k=>?_,g5⟩;rw[g4,htk]
          constructor
          . rintro (h | ⟨h,h'⟩)
            . exact .inl h
            . exact .inr ⟨Ig _ h,h'⟩
          . rintro (h | ⟨h,h'⟩)
            . exact .inl h
            . rcases HI.mp h with h | h
              . exact .inr ⟨h,h'⟩
              . rw[Hm.mp h] at h';exact absurd h' hle
      . rintro Hh H6 ⟨hs',u2,rfl,g1,g2,g3,g4,g5⟩
        rw[show (vN (aU e)).length=(aU e).length from Hk ..,HW] at g4;refine⟨hs',_,_,rfl,g1,g2,g3,λ k=>?_,λ c o h c1=>g5 c o (s5 _ _ (h5 c o h c1)) c1⟩;rw[g4,h4,HM,hat]
        constructor
        . rintro (⟨j,hj,r⟩ | ⟨h,h'⟩)
          . exact⟨j,Ig _ hj,r⟩
          . exact⟨at_,HS _ (Hm.mpr rfl),ds,e,hps,h,h'⟩
        . rintro⟨j,hj,ds',e',hp',h,h'⟩
          rcases HI.mp hj with hj | hj
          . exact .inl ⟨j,hj,ds',e',hp',h,h'⟩
          . have hj:j=at_:=Hm.mp hj
            subst hj;rw[hps] at hp';cases hp';exact .inr ⟨h,h'⟩
    . rintro Hh H3 ⟨hs,u1,u2,rfl,h1,h2,h3,h4,h5⟩
      rw[show (vN ks).length=ks.length from Hk ..,HW] at h4;have hfew:=gZ h2 h3;refine⟨_,rfl,fs,hs.map (λ k:Nat=>(k:Int)),rfl,(by rw[h1,xq];rfl),(by rw[Hk];omega),λ l ss hperm _ nl=>?_⟩;obtain⟨ms,rfl,hms⟩:=m5 hperm;refine⟨l,_,rfl,.inl ⟨aT.of af,?_⟩⟩;rw[<-z6];intro t' nt;have s3:ah H H3:=λ c o h=>h5 c o (s12 c o h) (aQ h nfs)
      refine q t' ms _ af (λ k=>(hms.mem_iff).trans ((h4 k).trans ?_)) (by rw[hms.length_eq];omega) ((s3.trans (ah.new nl)).trans (ah.new nt))
      constructor
      . rintro⟨j,hj,ds,e,r1,r2,r3⟩
        exact⟨j,ds,e,(hks j).mp hj,r1,r2,r3⟩
      . rintro⟨j,ds,e,hj,r1,r2,r3⟩
        exact⟨j,(hks j).mpr hj,ds,e,r1,r2,r3⟩
theorem wy {f:Addr} {fd:FuncData} (F:b4 K "copy_for" "copy_for" lN f fd) (Z:Bl mg)  : bA P w K mg base bY 1 f fd ["lead", "tops", "places", "most"] (tm P w):=by
  refine F.ok (k:=0) oO (λ vs H Q E h=>?_) (λ cdv A outer s H vs Q E hr h=>?_)
  . obtain⟨la,tp,d,most,k,T,dl,hs,fv,ms,cs,tops,rfl,_⟩:=h
    rfl
  . obtain⟨la,tp,d,most,k,T,dl,hs,fv,ms,cs,tops,rfl,hla,rl,cd,lay,htp,hts,hd,kn,cc,q⟩:=h
    refine⟨_,(ai (aN (i:=4) oO.nd rfl (Hj rfl) (aH aL (pv 0) ao (λ _ _=>rfl)))
      (ai (aS (aB sD (pv 4) (pv 1) (by with_unfolding_all rfl))
      (ar (aF (aX (aa (pv 4) (aa (aX ae) ae)))))
      aK)
      (ai (aS (PW.pt (fO (aB (DE (vw hr)) (pv 0) (pv 2) (by with_unfolding_all rfl)) (ff (aB fP (aP yB rfl Z.len bM (aa (pv 2) ae)) (pv 3) (aG _)))))
      (ar (aF (pv 0)))
      aK)
      (ar (aF (aX (aa (pv 4) (aa (aX ae) ae)))))))),?_⟩
    exists _,rfl,la,_,0,_,rfl,rfl,au.of hla,cg;have out:bS tops most cs (k,T)=(k,T0)->∀t1 t2,H t1=none->(upd H t1 (.tup [])) t2=none->Q (.ref t2) (upd (upd H t1 (.tup [])) t2 (.tup [.int (k:Nat),.ref t1])):=λ e t1 t2 n1 n2=>by
      rw[e] at q;have q2:=ah.new (o:=.tup [.int (k:Nat),.ref t1]) n2;exact q t2 (.tuple [.int (k:Nat),.tuple []]) _ (.tup af (.cons (.int _) (.cons (.tup (q2 _ _ af) .nil) .nil))) ⟨_,FD.zero,rfl⟩ ((ah.new n1).trans q2)
    exists _,rfl,_,rfl,tp,_,rfl,.inr (au.of htp),rfl,xj _,_,rfl;rw[show (if false=true then !sC (.int (k:Nat)) (vN hs) else sC (.int (k:Nat)) (vN hs))=decide (k∈hs) from rF k hs];by_cases hk:k∈hs
    . refine bJ (decide_eq_true hk) ?_
      exact⟨_,rfl,(by show 0<=sizeLine;decide),λ t1 n1=>⟨ln2,λ t2 n2=>out (by unfold bS;rw[if_pos ((hts k).mp hk)]) t1 t2 n1 n2⟩⟩
    . refine aY (decide_eq_false hk) ?_
      have hnt:¬tops k:=λ z=>hk ((hts k).mpr z)
      obtain⟨hmem,_⟩:=cd.mem cc;have hcl:(ms.map (·.1)).length=cs.length:=Paired.length cc;have hml:ms.length=cs.length:=by rw[<-hcl,Hk]
      have hv:=lC dl 0 ms;exists _,rfl,_,rfl,la,d,dl,dH 0 ms,rfl,rfl,⟨hd,kn,cd.key lay,rl⟩,_,rfl;by_cases hin:(k,T)∈cs
      . rw[if_pos (hmem.mpr hin)] at hv
        refine bJ (by rw[hv];rfl) (bf ?_);exact⟨_,rfl,q la dl H rl (by unfold bS;rw[if_neg hnt,if_pos (.inl hin)];exact cd) (ah.refl H)⟩
      . rw[if_neg (λ z=>hin (hmem.mp z))] at hv
        refine aY (by rw[hv];rfl) ?_;exists _,rfl,d,dH 0 ms,rfl,hd,_,rfl,_,_,rfl,rfl,_,rfl;rw[ph];refine b5 (λ hc=>?_) (λ hc=>?_)
        . have hlt:cs.length<most:=by have:=of_decide_eq_true hc;omega
          exact⟨_,rfl,q la dl H rl (by unfold bS;rw[if_neg hnt,if_pos (.inr hlt)];exact cd) (ah.refl H)⟩
        . have hlt:¬cs.length<most:=λ z=>hc (decide_eq_true ⋯)
          exact⟨_,rfl,(by show 0<=sizeLine;decide),λ t1 n1=>⟨ln2,λ t2 n2=>out (by unfold bS;rw[if_neg hnt,if_neg (λ z=>z.elim hin hlt)]) t1 t2 n1 n2⟩⟩
theorem As {f:Addr} {fd:FuncData} (F:b4 K "end_to" "end_to" pH f fd) (Z:Bl mg) (be:Own P w K mg base "without_ways" 4 ["end"] mV):bA P w K mg base bY 5 f fd ["end", "ways"] xu:=by
 refine F.ok (k:=4) Ap (λ vs H Q E h=>?_) (λ cdv A outer s H vs Q E hr h=>?_)
 ·obtain⟨ea,l,e,ns,rfl,_⟩:=h;rfl
 ·obtain⟨ea,l,e,ns,rfl,he,hl,hns,hn2,q⟩:=h;refine⟨_,(ai (aS (aB bC (aP aO rfl Z.len bM (aa (pv 1) ae)) ao (aG _))
   (ar (aF (aX (aa bG (aa (aH cf (pv 1) ao (λ _ _=>rfl)) ae)))))
   aK)
   (ar (aF (bh kG (aw be (hr.mono ⋯) rfl (aa (pv 0) ae)) (bw bL rfl Z.tuple cL (aa (pv 1) ae)))))),?_⟩
  exists _,rfl,l,_,rfl,.inl (aT.of hl),rfl,_,rfl;have hlen:(vN ns).length=ns.length:=Hk ..;by_cases h1:ns.length=1
  ·obtain⟨a,rfl⟩:∃a,ns=[a]:=J6.mp h1;refine bJ (decide_eq_true rfl) ?_;exact⟨_,rfl,l,_,0,_,rfl,rfl,aT.of hl,cg,ln2,λ t nt=>q t _ af (ah.new nt)⟩
  ·refine aY (decide_eq_false λ z=>h1 (by have:=V.int.inj z;omega)) ?_;have hns:=hns.resolve_left h1;refine⟨_,rfl,ea,e,rfl,he,λ t H1 ht s1=>⟨_,rfl,l,_,rfl,.inl ⟨aT.of (s1 _ _ hl),λ t2 nt2=>?_⟩⟩⟩;have q2:=ah.new (o:=.tup (vN ns)) nt2;have hhl:(jY e).length<=3:=by cases e<;>simp[jY]
   refine⟨t,t2,_,_,rfl,rfl,q2 _ _ ht,af,HZ (bB ⋯),λ t3 H3 ht3 s3=>?_⟩;refine q t3 H3 ?_ ((s1.trans q2).trans s3);have e1:j5 e ns=BH e ns:=by
    match ns,h1 with
    | [],_=>rfl
    | [a],h=>exact absurd rfl h
    | _::_::_,_=>rfl
   rw[e1,BI hns];exact ht3
theorem wz {f:Addr} {fd:FuncData} (F:b4 K "led_past" "led_past" lO f fd) (Z:Bl mg) {im:Tok} (oS:mg "MOST_TO_LEAD" = some (.int 60 im)) {C:Addr} (T:vo K C) (pi:Own P w K mg base "heads" 5 ["plan"] xr) (sn:Own P w K mg base "start" 4 ["plan"] xo) (sw:Bm P w K mg base C "Row" 1 ["self", "first"] (qu P w C)) (sB:Bk P w K mg base C "place_of" 1 ["self", "thing"] (qw P w C)) (cr:Own P w K mg base "behind" 3 ["facts", "deeds"] o7) (db:Own P w K mg base "leads" 5 ["facts", "end"] (rJ aA)) (sK:Own P w K mg base "copy_for" 1 ["lead", "tops", "places", "most"] (tm P w)) (tz:Own P w K mg base "end_to" 5 ["end", "ways"] xu):bA P w K mg base bY 7 f fd ["plan", "most"] (tE P w C):=by
  refine F.ok (k:=6) du (λ vs H Q E h=>?_) (λ cdv A outer s H vs Q E hr h=>?_)
  . obtain⟨plv,ps,xs,most,rfl,_⟩:=h
    rfl
  . obtain⟨plv,ps,xs,most,rfl,hp,pok,nok,hx10,hn0,hn,hm1,hm3,q⟩:=h
    refine⟨_,(ai (aS (aB iJ (aP aO rfl Z.len bM (aa (pv 0) ae)) (gm (v:=.int 60) rfl oS ⟨_,rfl⟩) (aG _))
      (ar Ay)
      aK)
      (ai (aN (i:=2) du.nd rfl (Hz rfl) (aw pi (hr.mono ⋯) rfl (aa (pv 0) ae)))
      (ai (cY (aN (i:=3) du.nd rfl (Hz rfl) (Dz sw (hr.mono ⋯) rfl (aa (aX (aa ao (aa (fT (aB sD ao (pv 2) (by with_unfolding_all rfl)) (aX ae) (aw sn (hr.mono ⋯) rfl (aa (pv 0) ae))) ae))) ae))))
      (ai (aN (i:=4) du.nd rfl (Hj rfl) (cU ae))
      (ai (uG PassesOwn.never (aB fP (aP aO rfl Z.len bM (aa (pv 4) ae)) (aP aO rfl Z.len bM (aa (hV (pv 3) rfl) ae)) (aG _))
      (ai (cA (aH cf (hV (pv 3) rfl) (aP aO rfl Z.len bM (aa (pv 4) ae)) (λ _ _=>rfl)) (bX rfl (aJ (ay (i:=5) du.nd rfl (Hj rfl)) (aJ (ay (i:=6) du.nd rfl (Hj rfl)) bN))))
      (ai (cA (aH aL (pv 0) (pv 5) (λ _ _=>rfl)) (bX rfl (aJ (ay (i:=7) du.nd rfl (Hj rfl)) (aJ (ay (i:=8) du.nd rfl (Hj rfl)) bN))))
      (ai (aN (i:=9) du.nd rfl (Hj rfl) (aw db (hr.mono ⋯) rfl (aa (aw cr (hr.mono ⋯) rfl (aa (pv 6) (aa (pv 7) ae))) (aa (pv 8) ae))))
      (ai (jw (i:=10) ["lead"] ["copies", "tops", "most"] [3,2,1] rfl du.nd rfl rfl rfl (d5 (pv 9)) rfl ⋯ ⋯ ⋯ ⟨⟨rfl,.inl rfl,rfl⟩,⟨⟨rfl,.inl rfl,rfl⟩,⟨⟨rfl,.inl rfl,rfl⟩,True.intro⟩⟩⟩ (λ _ _ _ _=>(ay (i:=0) (show ((["lead"]:List Str)++(["copies", "tops", "most"]:List Str)).Nodup by decide) rfl (Hj rfl) (hf:=Hz rfl))) (λ _ _ _ _=>dG) (λ _ _ _ _=>(Dy sB (pv 1) (hr.mono ⋯) (aa (aw sK (hr.mono ⋯) rfl (aa (pv 0) (aa (pv 2) (aa (DQ (K:=K) rfl (pv 1) rfl) (aa (pv 3) ae))))) ae))))
      (ar (eD (gI PySem.F.plainAttrs_list PySem.F.slot_list_append PySem.F.type_list_append fW (pv 4) (aa (aX (aa (pv 7) (aa (aw tz (hr.mono ⋯) rfl (aa (pv 8) (aa (pv 10) ae))) ae))) ae)))))))))
      (ar (aF (aX (aa (bw bL rfl Z.tuple cL (aa (pv 4) ae)) (aa (bw bL rfl Z.tuple cL (aa (hV (pv 3) rfl) ae)) ae)))))))))),?_⟩
    obtain⟨pp,vs,rfl,e1,r1⟩:=bg.bQ hp;have hvl:=r1.len;rw[Hk] at hvl;have hin:=pok.mK;exists _,rfl,pp,_,rfl,.inr (au.of e1),_,_,rfl,rfl,_,rfl;refine aY (decide_eq_false ⋯) ?_;refine⟨_,rfl,_,ps,rfl,hp,hin,hn0,hn,λ tp hs H1 htp hhs hsl s1=>?_⟩;have hp1:=hp.same s1 (bW ps);have hal:(b6 ps).length<=4000:=by
      have h1:=DL pok;have h2:ps.length*(2*6+1)<=60*13:=Nat.mul_le_mul hn (Hn 13);omega
    exists λ σ' H'=>∃(r m d ka:Addr) (d0:PyData),σ' = [some (.ref pp),some (.int (most:Nat)),some (.ref tp),some (.ref r),none,none,none,none,none,none,none]/\ib P w C H' r m d [(d0,ka)]/\CD (ip ps) d0/\H m=none/\H d=none/\H r=none/\ah H1 H',?_
    . have layc:vv (ip ps).2:=by
        unfold ip;split
        . exact cn.zero.lay nok
        . exact (pB pok).lay nok
      exists _,rfl,tp,_,rfl,.inr (au.of htp),rfl,xj _,_,rfl;rw[show (if false=true then !sC (.int 0) (vN hs) else sC (.int 0) (vN hs))=decide (0∈hs) from rF 0 hs];by_cases h0':0∈hs
      . have h0:=(hhs 0).mp h0'
        refine bJ (decide_eq_true h0') ?_;refine⟨(by show 0<=sizeLine;decide),λ t1 n1=>⟨ln2,λ ka nka=>λ r dx nx ndx nex=>?_⟩⟩;have cd:=(show CD (ip ps) (.tuple [.int ((0:Nat):Int),.tuple []]) from by unfold ip;rw[if_pos h0];exact⟨_,FD.zero,rfl⟩);have nl:=cd.kL;have q2:=ah.new (o:=.tup [.int 0,.ref t1]) nka;have s3:=(ah.new (o:=.tup []) n1).trans q2;have rd3:bg (upd (upd H1 t1 (.tup [])) ka (.tup [.int 0,.ref t1])) (.ref ka) (.tuple [.int ((0:Nat):Int),.tuple []]):=.tup af (.cons (.int _) (.cons (.tup (q2 _ _ af) .nil) .nil));generalize (upd (upd H1 t1 (.tup [])) ka (.tup [.int 0,.ref t1]))=H3 at q2 s3 rd3 nx ndx;have s0:ah H3 (upd (upd H3 dx (.own r)) r (.ins C dx [])):=λ b o e=>by
          rw[av (aQ e nx),av (aQ e ndx)];exact e
        refine⟨r,dx,ka,_,rfl,af,cd.key layc,rd3.same s0 nl,nl,λ m d H4 A4 k4 nm nd=>⟨rfl,?_⟩⟩;exact⟨r,m,d,ka,_,rfl,A4,cd,s1.free (s3.free (s0.free nm)),s1.free (s3.free (s0.free nd)),s1.free (s3.free nx),λ c o e=>k4 c o (s0 c o (s3 c o e)) (aQ (s3 c o e) nx)⟩
      . have h0:¬dh ps 0:=λ z=>h0' ((hhs 0).mpr z)
        refine aY (decide_eq_false h0') ?_;refine⟨_,rfl,_,ps,xs,6,rfl,hp1,pok,⋯,hal,λ v ss H2 rv hperm hsort s3'=>⟨ln2,λ ka nka=>λ r dx nx ndx nex=>?_⟩⟩;have cd:=(show CD (ip ps) (.tuple [.int ((0:Nat):Int),mY ss]) from by unfold ip;rw[if_neg h0];exact⟨_,BQ hperm hsort,rfl⟩);have nl:=cd.kL;have q2:=ah.new (o:=.tup [.int 0,v]) nka;have s3:=s3'.trans q2;have rd3:bg (upd H2 ka (.tup [.int 0,v])) (.ref ka) (.tuple [.int ((0:Nat):Int),mY ss]):=.tup af (.cons (.int _) (.cons (rv.same q2 (hG ss)) .nil));generalize (upd H2 ka (.tup [.int 0,v]))=H3 at q2 s3 rd3 nx ndx;have s0:ah H3 (upd (upd H3 dx (.own r)) r (.ins C dx [])):=λ b o e=>by
          rw[av (aQ e nx),av (aQ e ndx)];exact e
        refine⟨r,dx,ka,_,rfl,af,cd.key layc,rd3.same s0 nl,nl,λ m d H4 A4 k4 nm nd=>⟨rfl,?_⟩⟩;exact⟨r,m,d,ka,_,rfl,A4,cd,s1.free (s3.free (s0.free nm)),s1.free (s3.free (s0.free nd)),s1.free (s3.free nx),λ c o e=>k4 c o (s0 c o (s3 c o e)) (aQ (s3 c o e) nx)⟩
    rintro σ' H2 ⟨r,m,d,ka,d0,rfl,A2,cd0,nm,nd,nr,s2⟩;have s12:=s1.trans s2;have htp2:=s2 _ _ htp;have cc2:oB [(d0,ka)] [ip ps]:=.cons cd0 .nil;refine⟨(by show 0<=sizeLine;decide),λ pz npz=>?_⟩;have npzH:H pz=none:=s12.free npz;have q3:=ah.new (o:=.lst []) npz;have s3:=s12.trans q3;have A3:=A2.mv cc2.kL (λ c o h _=>q3 c o h) (λ p zs h=>q3 _ _ h);have htp3:=q3 _ _ htp2;have hz3:(upd H2 pz (.lst [])) pz=some (.lst []):=af;have npm:pz≠m:=(aQ A2.mem npz).symm;have npd:pz≠d:=(aQ A2.mZ npz).symm;have npr:pz≠r:=by obtain⟨dx,h⟩:=A2.ob;exact (aQ h npz).symm
    generalize (upd H2 pz (.lst []))=H3 at q3 s3 A3 hz3 htp3;have c0ok:(ip ps).1<ps.length/\cn xs (ip ps).2:=by
      unfold ip;split
      . exact⟨hn0,cn.zero⟩
      . exact⟨hn0,pB pok⟩
    exists λ fu Hh H'=>∃(ms:List (PyData×Addr)) (cs:List Cp) (outs:List Piece) (zs:List V) (u1 u2 u3 u4 u5 u6:Option V),Hh=[some (.ref pp),some (.int (most:Nat)),some (.ref tp),some (.ref r),some (.ref pz),u1,u2,u3,u4,u5,u6]/\ib P w C H' r m d ms/\oB ms cs/\jI ps.length most cs/\(∀c∈cs,c.1<ps.length/\cn xs c.2)/\H' pz=some (.lst zs)/\bp H' zs (outs.map eN)/\gu (dh ps) most ps fu cs outs=eV ps most/\fu+outs.length=most+ps.length/\outs.length<=cs.length/\H' tp=some (.tup (vN hs))/\ah H H',⟨most+ps.length,[(d0,ka)],[ip ps],[],[],_,_,_,_,_,_,rfl,A3,cc2,⟨by simp,Hu (II _ _) hm1⟩,(λ c hc=>by rw[Hm.mp hc];exact c0ok),hz3,.nil,rfl,rfl,HL _,htp3,s3⟩;clear A2 A3 hz3 s3 q3 htp3 cc2 cd0 npz htp2 s2;rintro fu Hh H4 ⟨ms,cs,outs,zs,u1,u2,u3,u4,u5,u6,rfl,A4,cc4,ic,hcs,hz4,rz4,hloop,hfu,hoc,htp4,s4⟩;obtain⟨dx4,hob4⟩:=A4.ob;have hzl:zs.length=outs.length:=by have:=rz4.len;rw[Hk] at this;exact this
    have hml:ms.length=cs.length:=by have:=Paired.length cc4;rw[Hk] at this;exact this
    have hml':(ms.map λ p=>V.ref p.2).length=ms.length:=Hk ..;have hcn:=ic.len λ c hc=>(hcs c hc).1
    exists _,rfl,pz,_,rfl,.inl (aT.of hz4),_,rfl,r,C,dx4,_,_,rfl,hob4,T.cl,T.members,ia,m,_,rfl,.inl (aT.of A4.mem),_,_,rfl,rfl,_,rfl;refine b5 (λ hc=>?_) (λ hc=>?_)
    . have hlt:outs.length<ms.length:=by have:=of_decide_eq_true hc;omega
      obtain⟨fu,rfl⟩:∃f',fu=f' + 1:=⟨fu-1,by omega⟩;have hmsi:ms[outs.length]?=some ms[outs.length]:=by simp[hlt]
      generalize ms[outs.length]=pm at hmsi;obtain⟨c,hci,cd⟩:=en cc4 (i:=outs.length) (x:=pm.1) (by rw[HC,hmsi];rfl);have hcm:=Hy hci;obtain⟨hcl,hct⟩:=hcs c hcm;have hps:ps[c.1]?=some ps[c.1]:=by simp[hcl]
      generalize ps[c.1]=pce at hps;rw[qy hci hps] at hloop;obtain⟨ds,e⟩:=pce;obtain⟨p',xs',pc,da,ea,ws,ep,e1',el',hx',e2,e3,r3,e4⟩:=fE hp hps;cases ep;rw[e1] at e1';cases e1';have dok:=pok.eX _ (Hy hps);have eok:=pok.ends _ (Hy hps);obtain⟨fd,hfd,epm⟩:=id cd;have rdm:=(A4.keys pm (Hy hmsi)).2;rw[epm] at rdm;obtain⟨pa,pvs,ere,hpm,rpv⟩:=bg.bQ rdm;cases ere;obtain⟨y1,t1,rfl,q1,rpv⟩:=rpv.cons_inv;obtain⟨y2,t2,rfl,q2,rpv⟩:=rpv.cons_inv;have z:=rpv.nil_inv;subst z;rw[q1.int_inv] at hpm;have fv2:FV H4 y2 c.2:=hfd.fv q2;exists _,λ σ' H' h=>⟨fu,Iy fu,h⟩;exists _,rfl,r,C,dx4,_,_,rfl,hob4,T.cl,T.members,ia,_,rfl,pz,_,rfl,.inl (aT.of hz4),m,_,_,_,rfl,rfl,aT.of A4.mem,bH (j:=zs.length) (by rw[hzl,HC,hmsi];rfl),pm.2,_,rfl,au.of hpm,rfl,_,_,rfl,_,_,rfl,rfl;exists _,rfl,_,rfl,pp,_,_,_,rfl,rfl,au.of (s4 _ _ e1),bH hx',pc,_,rfl,au.of (s4 _ _ e2),rfl,_,_,rfl,_,_,rfl,rfl;have bok:=hct.pA dok.2;refine⟨_,rfl,_,rfl,y2,da,ws,ds,c.2,10,rfl,fv2,s4 _ _ e3,r3.same s4 (bE ds),(λ ss hs nd=>Hu (hct.bV ss hs nd) hx10),(by have:ds.length<=6:=dok.1;omega),λ gv H5 g5 s5=>⟨_,rfl,gv,ea,aW c.2 ds,e,rfl,g5,s5 _ _ (s4 _ _ e4),(λ ss hs nd=>Hu (bok.bV ss hs nd) ⋯),λ at_ vs2 H6 hat pv s6=>?_⟩⟩;have lok:=xw bok eok;obtain⟨hll,hl2⟩:=vA (e:=e) bok;have s46:=s5.trans s6;have A6:=A4.mv cc4.kL (λ c o h _=>s46 c o h) (λ p zs h=>s46 _ _ h);have hz6:=s46 _ _ hz4;have htp6:=s46 _ _ htp4;have hvl:vs2.length=(cQ (aW c.2 ds) e).length:=Paired.length pv;generalize hls:cQ (aW c.2 ds) e=ls at hloop lok hll hl2 pv hvl;refine⟨_,rfl,at_,rfl,⟨_,au.of hat⟩,λ acc na=>?_⟩;have nam:acc≠m:=(aQ A6.mem na).symm;have nad:acc≠d:=(aQ A6.mZ na).symm;have nar:acc≠r:=by obtain⟨dx,h⟩:=A6.ob;exact (aQ h na).symm
      have kb:∀{H':Hp},lB m d H6 H'->∀p zs,H6 p=some (.tup zs)->H' p=some (.tup zs):=λ b p zs h=>b p _ h (bP h A6.mem (by intro z;cases z)) (bP h A6.mZ (by intro z;cases z))
      refine jx (K:=K) (a:=at_) (xs:=vs2) (λ i ys Hi H'=>∃(cv:Option V) (ms':List (PyData×Addr)),Hi=[cv,some (.ref r),some (.ref tp),some (.int (most:Nat))]/\ib P w C H' r m d ms'/\oB ms' (cE (dh ps) most cs (ls.take i)).1/\ys=vN (cE (dh ps) most cs (ls.take i)).2/\H' acc=some (.lst ys)/\lB m d H6 H') ?_ ?_ ?_ ?_
      . have qn:=ah.new (o:=.lst []) na
        exact⟨none,ms,rfl,A6.mv cc4.kL (λ c o h _=>qn c o h) (λ p zs h=>qn _ _ h),cc4,rfl,af,lB.of_same qn⟩
      . rintro i ys Hi H7 hi ⟨cv,ms',rfl,A7,cc7,rfl,ha,b7⟩
        refine⟨au.of (kb b7 _ _ hat),ha,bB ?_⟩;obtain⟨_,_,hlen,_⟩:=iV (tops:=dh ps) (ls:=ls.take i) (ns:=[]) ic hcs λ c hc=>lok c (Jx hc)
        rw[Hk];unfold cE;rw[hlen,HP];show 0+_<=_;omega
      . rintro i y ys Hi H7 hi ⟨cv,ms',rfl,A7,cc7,rfl,ha,b7⟩
        obtain⟨pr,hpr,qa,u,rfl,hq,fvu⟩:=en pv hi;obtain⟨k,U⟩:=pr;obtain⟨hkl,hUok⟩:=lok _ (Hy hpr);obtain⟨cok7,hcs7,_,_⟩:=iV (tops:=dh ps) (ls:=ls.take i) (ns:=[]) ic hcs λ c hc=>lok c (Jx hc)
        have hcn7:=jI.len cok7 λ c hc=>(hcs7 c hc).1
        have hml7:ms'.length=(cE (dh ps) most cs (ls.take i)).1.length:=by have:=Paired.length cc7;rw[Hk] at this;exact this
        have hnx:=wg (dh ps) most (cs:=cs) hpr;have fvu7:=fvu.aM (kb b7);obtain⟨fdu,hfdu,ru⟩:=fvu7.fd;have hq7:=kb b7 _ _ hq;have cdl:CD (k,U) (.tuple [.int (k:Nat),fdu]):=⟨fdu,hfdu,rfl⟩;obtain⟨dx7,hob7⟩:=A7.ob;have htp7:=kb b7 _ _ htp6;refine cb ?_;refine gy ?_;refine bf ?_;refine⟨_,rfl,r,dx7,_,rfl,hob7,vn,_,rfl,_,rfl,_,rfl,r,C,dx7,_,_,rfl,hob7,T.cl,T.places,iU,_,rfl,qa,tp,d,most,k,U,_,hs,u,ms',_,dh ps,rfl,hq7,.tup hq7 (.cons (.int _) (.cons ru .nil)),cdl,hUok.lay nok,htp7,hhs,A7.mZ,A7.kn,cc7,λ a d' H8 rd' cd' s8=>?_⟩;have A8:=A7.mv cc7.kL (λ c o h _=>s8 c o h) (λ p zs h=>s8 _ _ h);have hcpok:cn xs (bS (dh ps) most (cE (dh ps) most cs (ls.take i)).1 (k,U)).2:=by
          unfold bS;split
          . exact cn.zero
          . split
            . exact hUok
            . exact cn.zero
        refine⟨r,m,d,a,d',ms',rfl,A8,(by rw[hml7];unfold cE;omega),cd'.key (hcpok.lay nok),rd',cd'.kL,cc7.kL,λ H9 A9 b9=>?_⟩;have ha9:=b9 _ _ (s8 _ _ ha) nam nad;have cc9:=oB.put (a:=a) cc7 cd';have eix:=(cd'.mem cc9).2;rw[eix];refine⟨ha9,_,lF ms' d' a,rfl,?_,?_,?_,af,λ c' o h c1 c2=>?_⟩
        . refine A9.mv cc9.kL (λ x o h z=>?_) (λ p zs h=>by rw[av (bP h ha9 (by intro z;cases z))];exact h)
          rw[av ?_]
          . exact h
          . rcases z with rfl | rfl | rfl
            . exact nar.symm
            . exact nam.symm
            . exact nad.symm
        . rw[hnx];exact cc9
        . rw[hnx]
          show _=((cE (dh ps) most cs (ls.take i)).2++[_]).map _;rw[HA];rfl
        . rw[av (aQ h na)]
          exact b9 c' o (s8 _ _ (b7 c' o h c1 c2)) c1 c2
      rintro ys Hi H7 ⟨cv,ms',rfl,A7,cc7,rfl,ha,b7⟩;rw[hvl,HW] at cc7 ha;obtain⟨cok7,hcs7,hlen7,more,emore⟩:=iV (tops:=dh ps) (ls:=ls) (ns:=[]) ic hcs lok;have hcn7:=jI.len cok7 λ c hc=>(hcs7 c hc).1
      have s7:ah H H7:=λ c o h=>b7 c o (s46 c o (s4 c o h)) (aQ h nm) (aQ h nd)
      have hz7:H7 pz=some (.lst zs):=b7 _ _ hz6 npm npd;have hlen7':(cE (dh ps) most cs ls).2.length=ls.length:=by unfold cE;rw[hlen7];show 0+_=_;omega
      refine⟨_,rfl,.inl ⟨rfl,_,aT.of hz7⟩,_,rfl,_,rfl,_,rfl,ea,acc,e,(cE (dh ps) most cs ls).2,rfl,s7 _ _ e4,ha,(by rw[hlen7'];exact hll),(by rw[hlen7'];exact hl2),λ t3 H8 ht3 s8=>⟨ln2,λ t4 nt4=>?_⟩⟩;have q4:=ah.new (o:=.tup [.ref da,.ref t3]) nt4;have s79:=s8.trans q4;have ht9:=q4 _ _ ht3;have h49:(upd H8 t4 (.tup [.ref da,.ref t3])) t4=some (.tup [.ref da,.ref t3]):=af;generalize (upd H8 t4 (.tup [.ref da,.ref t3]))=H9 at q4 s79 ht9 h49;have hz9:=s79 _ _ hz7;exists pz,_,_,rfl,rfl,hz9,bB ⋯;have kt:∀p xs,H9 p=some (.tup xs)->(upd H9 pz (.lst (zs++[.ref t4]))) p=some (.tup xs):=λ p xs h=>by rw[av (bP h hz9 (by intro z;cases z))];exact h
      have s9:=s7.trans s79;have kt49:∀p xs,H4 p=some (.tup xs)->(upd H9 pz (.lst (zs++[.ref t4]))) p=some (.tup xs):=λ p xs h=>kt _ _ (s79 _ _ (kb b7 _ _ (s46 _ _ h)))
      refine⟨ms',(cE (dh ps) most cs ls).1,outs++[(ds,j5 e (cE (dh ps) most cs ls).2)],_,_,_,_,_,_,_,rfl,A7.mv cc7.kL (λ x o h z=>?_) (λ p zs h=>kt _ _ (s79 _ _ h)),cc7,cok7,hcs7,af,?_,hloop,(by rw[Ht];show fu+(_+1)=_;omega),?_,kt49 _ _ htp4,s9.put npzH⟩
      . rw[av ?_]
        . exact s79 _ _ h
        . rcases z with rfl | rfl | rfl
          . exact npr.symm
          . exact npm.symm
          . exact npd.symm
      . rw[HA]
        have rd4:bg H9 (.ref t4) (eN (ds,j5 e (cE (dh ps) most cs ls).2)):=.tup h49 (.cons (.tup (s9 _ _ e3) (r3.same s9 (bE ds))) (.cons (zZ ht9) .nil));exact bp.app (rz4.aM kt49 (cJ outs)) (rd4.aM kt (jy _))
      . have:(cE (dh ps) most cs ls).1.length=cs.length+more.length:=by unfold cE;rw[emore,Ht]
        rw[this,Ht];show _+1<=_;omega
    . have hnl:¬outs.length<ms.length:=λ z=>hc (decide_eq_true ⋯)
      rw[tD (Je ⋯)] at hloop;rw[<-hloop] at q;refine⟨_,rfl,pz,_,rfl,.inl ⟨aT.of hz4,λ t1 n1=>?_⟩⟩;have q1:=ah.new (o:=.tup zs) n1;refine⟨_,rfl,r,C,dx4,_,_,rfl,q1 _ _ hob4,T.cl,T.members,ia,m,_,rfl,.inl ⟨aT.of (q1 _ _ A4.mem),λ t2 n2=>⟨ln2,λ t3 n3=>?_⟩⟩⟩;have q2:=ah.new (o:=.tup (ms.map λ p=>V.ref p.2)) n2;have q3:=ah.new (o:=.tup [.ref t1,.ref t2]) n3;have q13:=(q1.trans q2).trans q3;refine q (.ref t3) (ms.map (·.1)) _ cc4 (.tup af (.cons (.tup (q3 _ _ (q2 _ _ af)) (rz4.same q13 (cJ outs))) (.cons (.tup (q3 _ _ af) (xx λ p hp=>(A4.keys p hp).2.same q13 (cc4.kL p hp))) .nil))) (s4.trans q13)
theorem Ct {f:Addr} {fd:FuncData} (F:b4 K "meets" "meets" rW f fd) (Z:Bl mg) (u8:Own P w K mg base "covers" 2 ["facts", "others"] vt):bA P w K mg base bY 3 f fd ["one", "lead"] rM:=by
 refine F.ok (k:=2) Ck (λ vs H Q E h=>?_) (λ cdv A outer s H vs Q E hr h=>?_)
 ·obtain⟨ov,lv,c,k,U,rfl,_⟩:=h;rfl
 ·obtain⟨ov,lv,c,k,U,rfl,hov,hlv,bV,q⟩:=h;exists _,(ar (aF (hJ (dP bC (aH aL (pv 0) ao (λ _ _=>rfl)) (aH aL (pv 1) ao (λ _ _=>rfl)) (aG _)) (fg (aw u8 (hr.mono ⋯) rfl (aa (aH aL (pv 0) ao (λ _ _=>rfl)) (aa (aH aL (pv 1) ao (λ _ _=>rfl)) ae)))))));obtain⟨oq,ou,rfl,hoq,hou⟩:=hov;obtain⟨lq,lu,rfl,hlq,hlu⟩:=hlv;have hlq:H lq=some (.tup [.int (k:Nat),lu]):=hlq;have hlu:FV H lu U:=hlu;exists _,rfl,oq,_,0,_,rfl,rfl,au.of hoq,cg,_,rfl,lq,_,0,_,rfl,rfl,au.of hlq,cg,rfl,_,rfl;by_cases hc:c.1=(k:Int)
  ·refine bJ (decide_eq_true (by rw[hc])) ?_;refine⟨_,rfl,oq,_,1,_,rfl,rfl,au.of hoq,cB,_,rfl,lq,_,1,_,rfl,rfl,au.of hlq,cB,ou,lu,c.2,U,rfl,hou,hlu,bV,λ b H1 hb s1=>?_⟩;exact q b H1 (hb.trans ⟨λ h=>⟨hc,h⟩,λ h=>h.2⟩) s1
  ·refine aY (decide_eq_false λ z=>hc (by injection z)) ?_;exact q false H ⟨(λ h=>nomatch h),λ h=>absurd h.1 hc⟩ (ah.refl H)
theorem nX {f:Addr} {fd:FuncData} (F:b4 K "same_end_holds" "same_end_holds" gQ f fd) (Z:Bl mg) (ad:Own P w K mg base "ways_on" 3 ["end"] jC) (ci:Own P w K mg base "known_beyond" 4 ["facts", "end"] (o9 aA)) (dL:Own P w K mg base "meets" 3 ["one", "lead"] rM):bA P w K mg base bY 6 f fd ["facts", "end", "other_end", "paper"] tK:=by
  refine F.ok (k:=5) fo (λ vs H Q E h=>?_) (λ cdv A outer s H vs Q E hr h=>?_)
  . obtain⟨fv,ea,fa,pa,T,e,f,us,paper,rfl,_⟩:=h
    rfl
  . obtain⟨fv,ea,fa,pa,T,e,f,us,paper,rfl,hf,hea,hfa,hpa,hpp,bV,hh,hwl,fewp,q⟩:=h
    refine⟨_,(ai (dJ PassesOwn.never rfl (Du rfl Z.zip (aa (aw ad (hr.mono ⋯) rfl (aa (pv 1) ae)) (aa (aw ci (hr.mono ⋯) rfl (aa (pv 0) (aa (pv 1) ae))) (aa (aw ad (hr.mono ⋯) rfl (aa (pv 2) ae)) ae)))) (bX rfl (aJ (ay (i:=4) fo.nd rfl (Hj rfl)) (aJ (ay (i:=5) fo.nd rfl (Hj rfl)) (aJ (ay (i:=6) fo.nd rfl (Hj rfl)) bN))))
      (ar (aS (PW.pt (df (cO (cX (pv 5))) (cS (fS (eI (aw dL (hr.mono ⋯) rfl (aa (aH aL (pv 3) (pv 6) (λ _ _=>rfl)) (aa (aX (aa (pv 4) (aa (pv 5) ae))) ae))))))))
      (ar (aF cM))
      aK)))
      (ar (aF cM))),?_⟩
    refine⟨_,rfl,ea,e,rfl,hea,λ t1 H1 ht1 s1=>?_⟩;refine⟨_,rfl,_,rfl,fv,ea,T,e,rfl,FV.same hf s1,s1 _ _ hea,bV,λ t2 bs H2 ht2 hbs s2=>?_⟩;have s12:=s1.trans s2;refine⟨_,rfl,fa,f,rfl,s12 _ _ hfa,λ t3 H3 ht3 s3=>?_⟩;have s03:=s12.trans s3;have ht1:=s3 _ _ (s2 _ _ ht1);have ht2:=s3 _ _ ht2;have hbs:=hbs.same s3;have hpa:=s03 _ _ hpa;have hpp:=hpp.same s03;have l1:(aU e).length=(aU f).length:=by
      cases e with
      | stop=>rw[tJ.mp hh]
      | go p=>obtain⟨r,rfl⟩:=xC.mp hh;rfl
      | aR b x n p r=>obtain⟨p',r',rfl⟩:=vE.mp hh;rfl
    have l2:bs.length=(aU e).length:=by rw[dZ hbs];cases e<;>rfl
    have hul:=dZ hpp;exists t1,t2,t3,rfl,⟨_,au.of ht1⟩,⟨_,au.of ht2⟩,⟨_,au.of ht3⟩;have hwe:((aU e).map λ k=>V.int (k:Nat))=vN (aU e):=rfl;have hwf:((aU f).map λ k=>V.int (k:Nat))=vN (aU f):=rfl;rw[hwe] at ht1;rw[hwf] at ht3;have le:(vN (aU e)).length=(aU e).length:=Hk ..;have lf:(vN (aU f)).length=(aU f).length:=Hk ..;refine Ba (K:=K) (a:=t1) (b:=t2) (c:=t3) (xs:=vN (aU e)) (ys:=bs) (ws:=vN (aU f)) ⋯ ⋯ (λ i Hh H'=>∃(u1 u2 u3:Option V),Hh=[some fv,some (.ref ea),some (.ref fa),some (.ref pa),u1,u2,u3]/\(∀(j w a:Nat) (U:Str->Sx),j<i->(aU e)[j]?=some w->(gN T e)[j]?=some (some U)->(aU f)[j]?=some a->Mt paper a w U)/\ah H3 H') ?_ ?_ ?_ ?_
    . exact⟨_,_,_,rfl,(λ j w a U h=>absurd h (Jc _)),ah.refl _⟩
    . rintro i Hh H4 hi ⟨u1,u2,u3,rfl,hm,s4⟩
      exact⟨au.of (s4 _ _ ht1),au.of (s4 _ _ ht2),au.of (s4 _ _ ht3)⟩
    . rintro i x y r Hh H4 t hx hy hr ht ⟨u1,u2,u3,rfl,hm,s4⟩
      obtain⟨w0,hw0,rfl⟩:∃k,(aU e)[i]?=some k/\x=V.int (k:Nat):=by
        rw[HC] at hx;cases z:(aU e)[i]? with
        | none=>rw[z] at hx;cases hx
        | some k=>rw[z] at hx;exact⟨k,rfl,(HB.inj hx).symm⟩
      obtain⟨a0,ha0,rfl⟩:∃k,(aU f)[i]?=some k/\r=V.int (k:Nat):=by
        rw[HC] at hr;cases z:(aU f)[i]? with
        | none=>rw[z] at hr;cases hr
        | some k=>rw[z] at hr;exact⟨k,rfl,(HB.inj hr).symm⟩
      obtain⟨o,ho,by_⟩:=L2.en hbs hy;have s5:=ah.new (o:=.tup [.int (w0:Nat),y,.int (a0:Nat)]) ht;exists t,_,rfl,au.of af,rfl,_,_,rfl,_,_,rfl,_,_,rfl,rfl;generalize (upd H4 t (.tup [.int (w0:Nat),y,.int (a0:Nat)]))=H5 at s5 ⊢;have s35:=s4.trans s5;have by5:=BV.same by_ s35;exists _,rfl,_,rfl;cases o with
      | none =>
        have by5:y=.aZ:=by5;subst by5;refine aY rfl ?_;refine br ?_;refine⟨_,_,_,rfl,λ j w a U hj h1 h2 h3=>?_,s35⟩;by_cases hji:j=i
        . subst hji
          rw[ho] at h2;cases h2
        . exact hm j w a U ⋯ h1 h2 h3
      | some U0 =>
        have by5:FV H5 y U0:=by5;have hne:decide (y=V.aZ)=false:=by
          obtain⟨p,_,_,rfl,_⟩:=by5;rfl
        refine bJ (by rw[hne];rfl) ?_;have hal:a0<paper.length:=hwl a0 (Hy ha0);have hca:paper[a0]?=some paper[a0]:=by simp[hal]
        have hcm:=Ik hal;generalize paper[a0]=c0 at hca hcm;obtain⟨ov,hov,hpv⟩:=fJ hpp hca;refine⟨_,rfl,_,rfl,pa,_,_,_,rfl,rfl,au.of (s35 _ _ hpa),bH hov,_,rfl,_,rfl,ln2,λ lt nlt=>?_⟩;have s6:=ah.new (o:=.tup [.int (w0:Nat),y]) nlt;refine⟨ov,.ref lt,c0,w0,U0,rfl,hpv.aM (λ p zs e=>s6 _ _ (s35 _ _ e)),⟨lt,y,rfl,af,FV.same by5 s6⟩,fewp c0 hcm,λ b H7 hb s7=>⟨_,rfl,?_⟩⟩;have s37:=(s35.trans s6).trans s7;cases b with
        | true =>
          refine br ?_;refine⟨_,_,_,rfl,λ j w a U hj h1 h2 h3=>?_,s37⟩;by_cases hji:j=i
          . subst hji
            rw[ho] at h2;cases h2;rw[hw0] at h1;cases h1;rw[ha0] at h3;cases h3;exact⟨c0,hca,hb.mp rfl⟩
          . exact hm j w a U ⋯ h1 h2 h3
        | false =>
          refine bf ?_;refine q false H7 ⟨(λ h=>nomatch h),λ h=>?_⟩ (s03.trans s37);obtain⟨c1,g1,g2⟩:=(qE hh).mp h i w0 a0 U0 hw0 ho ha0;rw[hca] at g1;cases g1;exact hb.mpr g2
    . rintro Hh H4 ⟨u1,u2,u3,rfl,hm,s4⟩
      refine q true H4 ⟨λ _=>(qE hh).mpr λ i w a U h1 h2 h3=>?_,λ _=>rfl⟩ (s03.trans s4);exact hm i w a U (by rw[le];exact (HD.mp h1).1) h1 h2 h3
theorem vR {f:Addr} {fd:FuncData} (F:b4 K "end_holds" "end_holds" j8 f fd) (Z:Bl mg) (be:Own P w K mg base "without_ways" 4 ["end"] mV) (ul:Own P w K mg base "same_end_holds" 6 ["facts", "end", "other_end", "paper"] tK) (db:Own P w K mg base "leads" 5 ["facts", "end"] (rJ aA)) (dL:Own P w K mg base "meets" 3 ["one", "lead"] rM):bA P w K mg base bY 7 f fd ["facts", "end", "other_end", "paper"] qF:=by
  refine F.ok (k:=6) nu (λ vs H Q E h=>?_) (λ cdv A outer s H vs Q E hr h=>?_)
  . obtain⟨fv,ea,fa,pa,T,e,f,us,paper,xs,rfl,_⟩:=h
    rfl
  . obtain⟨fv,ea,fa,pa,T,e,f,us,paper,xs,rfl,hf,hea,hfa,hpa,hpp,tok,hx,le,lf,hwl,fewp,q⟩:=h
    refine⟨_,(ai (aS (aB (zp hr.units) (aw be (hr.mono ⋯) rfl (aa (pv 1) ae)) (aw be (hr.mono ⋯) rfl (aa (pv 2) ae)) (aG _))
      (ar (aF (aw ul (hr.mono ⋯) rfl (aa (pv 0) (aa (pv 1) (aa (pv 2) (aa (pv 3) ae)))))))
      aK)
      (ai (aN (i:=4) nu.nd rfl (Hj rfl) (aw db (hr.mono ⋯) rfl (aa (pv 0) (aa (pv 1) ae))))
      (ar (aF (hJ (dP bC (aH aL (pv 2) ao (λ _ _=>rfl)) bG (aG _)) (hJ (dP bC (aP aO rfl Z.len bM (aa (pv 4) ae)) ao (aG _)) (fg (aw dL (hr.mono ⋯) rfl (aa (aH aL (pv 3) (aH aL (pv 2) ao (λ _ _=>rfl)) (λ _ _=>rfl)) (aa (aH aL (pv 4) ao (λ _ _=>rfl)) ae)))))))))),?_⟩
    have bV:gM T 62:=λ ss a b=>Hu (tok.bV ss a b) hx
    refine⟨_,rfl,ea,e,rfl,hea,λ t1 H1 ht1 s1=>?_⟩;refine⟨_,rfl,fa,f,rfl,s1 _ _ hfa,λ t2 H2 ht2 s2=>?_⟩;have s02:=s1.trans s2;have k1:=jZ le;have k2:=jZ lf;exists .tuple (bO e),.tuple (bO f),.tup (s2 _ _ ht1) (xB e),.tup ht2 (xB f),k1.lay,k2.lay,(by have:=k1.dep;omega),_,rfl;have ek:PyData.eqv (.tuple (bO e)) (.tuple (bO f))=decide (bO e=bO f):=by
      rw[gO k1 k2];by_cases h:bO e=bO f
      . rw[decide_eq_true h,decide_eq_true (by rw[h])]
      . rw[decide_eq_false h,decide_eq_false λ z=>h (by injection z)]
    rw[show (if false=true then !PyData.eqv (.tuple (bO e)) (.tuple (bO f)) else PyData.eqv (.tuple (bO e)) (.tuple (bO f)))=decide (bO e=bO f) from ek];by_cases hh:bO e=bO f
    . refine bJ (decide_eq_true hh) ?_
      refine⟨_,rfl,_,rfl,_,rfl,_,rfl,fv,ea,fa,pa,T,e,f,us,paper,rfl,FV.same hf s02,s02 _ _ hea,s02 _ _ hfa,s02 _ _ hpa,hpp.same s02,bV,hh,hwl,fewp,λ b H3 hb s3=>?_⟩;exact q b H3 hb (s02.trans s3)
    . refine aY (decide_eq_false hh) ?_
      refine⟨_,rfl,_,rfl,fv,ea,T,e,rfl,FV.same hf s02,s02 _ _ hea,bV,λ t3 lvs H3 ht3 hlv s3=>?_⟩;have s03:=s02.trans s3;have hfa3:=s03 _ _ hfa;have hll:=dZ hlv;exists _,rfl,fa,_,0,_,rfl,rfl,au.of hfa3,fZ f,rfl,_,rfl;have eh:=yF (paper:=paper) (T:=T) hh;cases f with
      | stop =>
        refine aY (show decide (V.str (wE L2.End.stop)=V.str "go")=false by decide) ?_;exact q false H3 ⟨(λ h=>nomatch h),λ h=>by obtain⟨r',ld,h1,_⟩:=eh.mp h;cases h1⟩ s03
      | aR b x n p r =>
        refine aY (show decide (V.str (wT b)=V.str "go")=false by cases b<;>decide) ?_;exact q false H3 ⟨(λ h=>nomatch h),λ h=>by obtain⟨r',ld,h1,_⟩:=eh.mp h;cases h1⟩ s03
      | go r =>
        refine bJ (decide_eq_true rfl) ?_;exists _,rfl,t3,_,rfl,.inr (au.of ht3),rfl,_,rfl;by_cases h1:lvs.length=1
        . refine bJ (decide_eq_true (by rw[h1];rfl)) ?_
          rw[hll] at h1;obtain⟨ld0,hld⟩:∃ld0,cQ T e=[ld0]:=J6.mp h1;rw[hld] at hlv;cases hlv with
          | @cons lv _ _ _ hp0 hr0 =>
          cases hr0;have hrl:r<paper.length:=hwl r (Hm.mpr rfl);have hca:paper[r]?=some paper[r]:=by simp[hrl]
          have hcm:=Ik hrl;generalize paper[r]=c0 at hca hcm;obtain⟨ov,hov,hpv⟩:=fJ (hpp.same s03) hca;refine⟨_,rfl,_,rfl,fa,_,1,_,rfl,rfl,au.of hfa3,cB,pa,_,_,_,rfl,rfl,au.of (s03 _ _ hpa),bH hov,_,rfl,t3,_,0,_,rfl,rfl,au.of ht3,cg,ov,lv,c0,ld0.1,ld0.2,rfl,hpv,hp0,fewp c0 hcm,λ b H4 hb s4=>?_⟩;refine q b H4 (hb.trans (eh.trans ⟨λ ⟨r',ld',g1,g2,c1,g3,g4⟩=>?_,λ h=>⟨r,ld0,rfl,hld,c0,hca,h⟩⟩).symm) (s03.trans s4);cases g1;rw[hld] at g2;cases g2;rw[hca] at g3;cases g3;exact g4
        . refine aY (decide_eq_false λ z=>h1 (by injection z with z;omega)) ?_
          refine q false H3 ⟨(λ h=>nomatch h),λ h=>?_⟩ s03;obtain⟨r',ld,g1,g2,_⟩:=eh.mp h;rw[hll,g2] at h1;exact absurd rfl h1
theorem rZ {f:Addr} {fd:FuncData} (F:b4 K "piece_holds" "piece_holds" i5 f fd) (Z:Bl mg) (ut:Own P w K mg base "end_holds" 7 ["facts", "end", "other_end", "paper"] qF) (cr:Own P w K mg base "behind" 3 ["facts", "deeds"] o7):bA P w K mg base bY 8 f fd ["one", "piece", "other_piece", "paper"] m7:=by
 refine F.ok (k:=7) fB (λ vs H Q E h=>?_) (λ cdv A outer s H vs Q E hr h=>?_)
 ·obtain⟨ov,pc,qc,pa,da,ea,da',ea',ws,ws',us,c,ds,ds',e,f,paper,xs,rfl,_⟩:=h;rfl
 ·obtain⟨ov,pc,qc,pa,da,ea,da',ea',ws,ws',us,c,ds,ds',e,f,paper,xs,rfl,hov,hpc,hda,rds,hea,hqc,hda',rds',hea',hpa,hpp,tok,dok,hd12,hx,ld,ld',le,lf,hwl,fewp,q⟩:=h;refine⟨_,(ai (cA (pv 1) (bX rfl (aJ (ay (i:=4) fB.nd rfl (Hj rfl)) (aJ (ay (i:=5) fB.nd rfl (Hj rfl)) bN))))
   (ai (cA (pv 2) (bX rfl (aJ (ay (i:=6) fB.nd rfl (Hj rfl)) (aJ (ay (i:=7) fB.nd rfl (Hj rfl)) bN))))
   (ar (aF (hJ (dP (zp hr.units) (pv 4) (pv 6) (aG _)) (fg (aw ut (hr.mono ⋯) rfl (aa (aw cr (hr.mono ⋯) rfl (aa (aH aL (pv 0) ao (λ _ _=>rfl)) (aa (pv 4) ae))) (aa (pv 5) (aa (pv 7) (aa (pv 3) ae))))))))))),?_⟩
  exists _,rfl,pc,_,rfl,au.of hpc,rfl,_,_,rfl,_,_,rfl,rfl;exists _,rfl,qc,_,rfl,au.of hqc,rfl,_,_,rfl,_,_,rfl,rfl;have k1:=ie ld;have k2:=ie ld';exists _,rfl,_,rfl,.tuple (ds.map bI),.tuple (ds'.map bI),.tup hda rds,.tup hda' rds',k1.lay,k2.lay,(by have:=k1.dep;omega),_,rfl;rw[show (if false=true then !PyData.eqv (.tuple (ds.map bI)) (.tuple (ds'.map bI)) else PyData.eqv (.tuple (ds.map bI)) (.tuple (ds'.map bI)))=decide (PyData.tuple (ds.map bI)=.tuple (ds'.map bI)) from gO k1 k2];by_cases hd:ds=ds'
  ·refine bJ (decide_eq_true (lH.mpr hd)) ?_;obtain⟨oq,ou,rfl,hoq,hou⟩:=hov;refine⟨_,rfl,oq,_,1,_,rfl,rfl,au.of hoq,cB,_,rfl,ou,da,ws,ds,c.2,xs.length,rfl,hou,hda,rds,tok.bV,⋯,λ v H1 f1 s1=>?_⟩;refine⟨_,rfl,_,rfl,_,rfl,v,ea,ea',pa,aW c.2 ds,e,f,us,paper,xs,rfl,f1,s1 _ _ hea,s1 _ _ hea',s1 _ _ hpa,hpp.same s1,tok.pA dok,⋯,le,lf,hwl,fewp,λ b H2 hb s2=>?_⟩;exact q b H2 (hb.trans ⟨λ h=>⟨hd,h⟩,λ h=>h.2⟩) (s1.trans s2)
  ·refine aY (decide_eq_false λ z=>hd (lH.mp z)) ?_;exact q false H ⟨(λ h=>nomatch h),λ h=>absurd h.1 hd⟩ (ah.refl H)
theorem r9 {f:Addr} {fd:FuncData} (F:b4 K "paper_holds" "paper_holds" i6 f fd) (Z:Bl mg) (v1:Own P w K mg base "holds" 2 ["facts", "worths"] vp) (v4:Own P w K mg base "piece_holds" 8 ["one", "piece", "other_piece", "paper"] m7):bA P w K mg base bY 9 f fd ["plan", "other", "paper"] gd:=by
  refine F.ok (k:=8) rX (λ vs H Q E h=>?_) (λ cdv A outer s H vs Q E hr h=>?_)
  . obtain⟨plv,qlv,pa,ps,qs,us,paper,xs,m,rfl,_⟩:=h
    rfl
  . obtain⟨plv,qlv,pa,ps,qs,us,paper,xs,m,rfl,hp,hq,hpa,hpp,pok,qin,layq,nok,ic,hx,hm12,hp0,hpn,hn0,hn,q⟩:=h
    refine⟨_,(ai (aS (aB jT (aP aO rfl Z.len bM (aa (pv 2) ae)) (aP aO rfl Z.len bM (aa (pv 1) ae)) (aG _))
      (ar (aF cM))
      aK)
      (ai (aS (fS (eI (aP (jX rfl) rfl Z.all qi (aa (dA ["one"] ["plan"] [0] rfl (d5 (pv 2)) rfl ⋯ ⋯ ⋯ ⟨⟨rfl,.inl rfl,rfl⟩,True.intro⟩ (λ _ _ _ _=>(ay (i:=0) (show ((["one"]:List Str)++(["plan"]:List Str)).Nodup by decide) rfl (Hj rfl) (hf:=Hz rfl))) (λ _ _ _ _=>dG) (λ _ _ _ _=>(AL nG fP ao (aH (kO (K:=K) rfl) (pv 0) ao (λ _ _=>rfl)) (aP (wj (K:=K) rfl) rfl Z.len bM (aa (pv 1) ae))))) ae))))
      (ar (aF cM))
      aK)
      (ai (aS (PW.pt (fO (aB jT (aH aL (aH aL (pv 2) ao (λ _ _=>rfl)) ao (λ _ _=>rfl)) ao (aG _)) (ff (fS (eI (aw v1 (hr.mono ⋯) rfl (aa (aH aL (aH aL (pv 2) ao (λ _ _=>rfl)) ao (λ _ _=>rfl)) (aa oZ ae))))))))
      (ar (aF cM))
      aK)
      (ar (aF (aP (jX rfl) rfl Z.all qi (aa (dA ["one", "piece"] ["paper", "plan"] [2,0] rfl (uP rfl Z.zip (aa (pv 2) (aa (pv 1) ae))) rfl ⋯ ⋯ ⋯ ⟨⟨rfl,.inl rfl,rfl⟩,⟨⟨rfl,.inl rfl,rfl⟩,True.intro⟩⟩ (λ _ _ _ _=>(kA (K:=K) (n:=2) rfl (bX (n:=2) rfl (aJ (ay (i:=0) (show ((["one", "piece"]:List Str)++(["paper", "plan"]:List Str)).Nodup by decide) rfl (Hj rfl) (hf:=Hz rfl)) (aJ (ay (i:=1) (show ((["one", "piece"]:List Str)++(["paper", "plan"]:List Str)).Nodup by decide) rfl (Hj rfl) (hf:=Hz rfl)) bN))))) (λ _ _ _ _=>dG) (λ _ _ _ _=>(aw v4 (hr.mono ⋯) rfl (aa (pv 0) (aa (aH (kO (K:=K) rfl) (pv 3) (aH (kO (K:=K) rfl) (pv 0) ao (λ _ _=>rfl)) (λ _ _=>rfl)) (aa (pv 1) (aa (pv 2) ae))))))) ae))))))),?_⟩
    obtain⟨pp,vs,rfl,e1,rvs⟩:=bg.bQ hp;have hvl:vs.length=ps.length:=by have:=rvs.len;rw[Hk] at this;exact this
    obtain⟨qp,ws,rfl,e1q,rws⟩:=bg.bQ hq;have hwl:ws.length=qs.length:=by have:=rws.len;rw[Hk] at this;exact this
    have hul:=dZ hpp;have bV:∀c∈paper,gM c.2 63:=λ c hc=>λ ss a b=>Hu ((ic c hc).bV ss a b) ⋯
    have layp:=iA nok pok;exists _,rfl,pa,_,rfl,.inr (au.of hpa),_,rfl,qp,_,rfl,.inr (au.of e1q),rfl,_,rfl;by_cases hlen:us.length=ws.length
    case neg =>
      refine bJ (by rw[decide_eq_false λ z=>hlen (by injection z with z;omega)];rfl) ?_;exact q false H ⟨(λ h=>nomatch h),λ h=>absurd h.len ⋯⟩ (ah.refl H)
    refine aY (by rw[hlen,decide_eq_true rfl];rfl) ?_;have hlen':paper.length=qs.length:=by omega
    refine⟨_,rfl,pa,rfl,⟨_,au.of hpa⟩,λ acc na=>?_⟩;refine jx (K:=K) (a:=pa) (xs:=us) (λ i ys Hi H'=>∃(c1:Option V),Hi=[c1,some (.ref pp)]/\ys=(paper.take i).map (λ c=>V.bl (jK ps.length c))/\H' acc=some (.lst ys)/\ah H H') ?_ ?_ ?_ ?_
    . exact⟨none,rfl,rfl,af,ah.new na⟩
    . rintro i ys Hi H1 hi ⟨c1,rfl,rfl,ha,s1⟩
      refine⟨au.of (s1 _ _ hpa),ha,bB ?_⟩;rw[Hk,HP];omega
    . rintro i x ys Hi H1 hx' ⟨c1,rfl,rfl,ha,s1⟩
      obtain⟨c0,hc0,hpv⟩:=L2.en hpp hx';obtain⟨oq,ou,rfl,hoq,hou⟩:=hpv.aM λ p zs e=>s1 _ _ e
      refine cb ?_;refine gy ?_;refine bf ?_;have fin:∀b,b=jK ps.length c0->H1 acc=some (.lst ((paper.take i).map λ c=>V.bl (jK ps.length c)))/\∃c1',[some (V.ref oq),some (.ref pp)]=[c1',some (.ref pp)]/\(paper.take i).map (λ c=>V.bl (jK ps.length c))++[V.bl b]=(paper.take (i+1)).map (λ c=>V.bl (jK ps.length c))/\(upd H1 acc (.lst ((paper.take i).map (λ c=>V.bl (jK ps.length c))++[V.bl b]))) acc=some (.lst ((paper.take i).map (λ c=>V.bl (jK ps.length c))++[V.bl b]))/\ah H (upd H1 acc (.lst ((paper.take i).map (λ c=>V.bl (jK ps.length c))++[V.bl b]))):=λ b hb=>by
        refine⟨ha,_,rfl,?_,af,s1.put na⟩;rw[take1 hc0,HA,hb];rfl
      exists _,rfl,oq,_,0,_,rfl,rfl,au.of hoq,cg,_,_,rfl,rfl,_,rfl;by_cases h0:0<=c0.1
      . refine bJ (decide_eq_true h0) ?_
        exists _,rfl,pp,_,rfl,.inr (au.of (s1 _ _ e1)),_,_,rfl,rfl;refine fin _ ?_;unfold jK;rw[decide_eq_true h0,hvl];rfl
      . refine aY (decide_eq_false h0) ?_
        refine fin _ ?_;unfold jK;rw[decide_eq_false h0];rfl
    rintro ys Hi H1 ⟨c1,rfl,rfl,ha,s1⟩;rw[hul,HW] at ha;exists acc,paper.map (jK ps.length),rfl,aT.of (by rw[IU];exact ha),_,rfl;by_cases hall:∀c∈paper,0<=c.1/\c.1<ps.length
    case neg =>
      have hb:(paper.map (jK ps.length)).all id=false:=by
        rw[JS];intro z;refine hall λ c hc=>xD.mp ?_
        rw[Ir] at z;exact z _ (HE.mpr ⟨c,hc,rfl⟩)
      refine bJ (by rw[hb];rfl) ?_;exact q false H1 ⟨(λ h=>nomatch h),λ h=>absurd h.Ge hall⟩ s1
    have hb:(paper.map (jK ps.length)).all id=true:=by
      rw[Ir];intro b hb;obtain⟨c,hc,rfl⟩:=HE.mp hb;exact xD.mpr (hall c hc)
    refine aY (by rw[hb];rfl) ?_;clear ha hb na;have hc0:paper[0]?=some paper[0]:=by simp[hn0]
    have hcm0:=Ik hn0;generalize paper[0]=c0 at hc0 hcm0;obtain⟨ov,hov,hpv⟩:=fJ (hpp.same s1) hc0;obtain⟨oq,ou,rfl,hoq,hou⟩:=hpv;have hpa1:=s1 _ _ hpa;exists _,rfl,pa,_,0,_,rfl,rfl,au.of hpa1,bH (j:=0) hov,oq,_,0,_,rfl,rfl,au.of hoq,cg,rfl,_,rfl;by_cases hz:c0.1=0
    case neg =>
      refine bJ (by rw[decide_eq_false λ z=>hz (by injection z)];rfl) (bf ?_);refine q false H1 ⟨(λ h=>nomatch h),λ h=>?_⟩ s1;obtain⟨c',h1,h2,_⟩:=h.first
      rw[hc0] at h1;cases h1;exact absurd h2 hz
    refine aY (by rw[hz,decide_eq_true rfl];rfl) ?_;refine⟨_,rfl,pa,_,0,_,rfl,rfl,au.of hpa1,bH (j:=0) hov,oq,_,1,_,rfl,rfl,au.of hoq,cB,λ d nd=>⟨ou,d,[],λ _=>0,c0.2,rfl,FV.same hou (ah.new nd),af,(λ x=>rfl),bV c0 hcm0,λ b H2 hb s2=>?_⟩⟩;have s12:=(ah.new (o:=.dK []) nd).trans s2;have s02:=s1.trans s12;exists _,rfl;cases b with
    | false =>
      refine bf ?_;refine q false H2 ⟨(λ h=>nomatch h),λ h=>?_⟩ s02;obtain⟨c',h1,h2,h3⟩:=h.first
      rw[hc0] at h1;cases h1;exact hb.mpr h3
    | true =>
      refine br ?_;have hsnd:=hb.mp rfl;have hpa2:=s02 _ _ hpa;have e12:=s02 _ _ e1;have e1q2:=s02 _ _ e1q;have hpp2:=hpp.same s02;refine⟨_,rfl,_,rfl,pa,qp,rfl,⟨_,au.of hpa2⟩,⟨_,au.of e1q2⟩,λ acc na=>?_⟩;refine uQ (K:=K) (a:=pa) (b:=qp) (xs:=us) (ys:=ws) (λ i zs Hi H'=>∃(c1 c2:Option V) (bs:List Bool),Hi=[c1,c2,some (.ref pa),some (.ref pp)]/\zs=bs.map V.bl/\bs.length=i/\H' acc=some (.lst zs)/\(∀(k:Nat) (b:Bool) (c:Pp) (p p':Piece),bs[k]?=some b->paper[k]?=some c->ps[c.1.toNat]?=some p->qs[k]?=some p'->(b=true↔(p.1=p'.1/\fm paper (aW c.2 p.1) p.2 p'.2)))/\ah H2 H') ?_ ?_ ?_ ?_
      . exact⟨none,none,[],rfl,rfl,rfl,af,(λ k b c p p' h=>by simp at h),ah.new na⟩
      . rintro i zs Hi H3 hi ⟨c1,c2,bs,rfl,rfl,g1,g2,g3,g4⟩
        exact⟨au.of (g4 _ _ hpa2),au.of (g4 _ _ e1q2),g2,bB (by rw[Hk];omega)⟩
      . rintro i x y zs Hi H3 t hx' hy ht ⟨c1,c2,bs,rfl,rfl,g1,g2,g3,g4⟩
        obtain⟨c,hc,hpv⟩:=L2.en hpp2 hx';have hcm:=Hy hc;have hcin:=hall c hcm;have hil:i<qs.length:=by have:=(HD.mp hy).1;omega
        have hqi:qs[i]?=some qs[i]:=by simp[hil]
        generalize qs[i]=qpc at hqi;obtain⟨ds',f'⟩:=qpc;have hpl:c.1.toNat<ps.length:=by omega
        have hpi:ps[c.1.toNat]?=some ps[c.1.toNat]:=by simp[hpl]
        generalize ps[c.1.toNat]=ppc at hpi;obtain⟨ds,e'⟩:=ppc;obtain⟨p',xs',pc,da,ea,wsd,ep,e1',el',hxp,e2,e3,r3,e4⟩:=fE hp hpi;cases ep;rw[e1] at e1';cases e1';obtain⟨p',xs',qc,da',ea',wsd',ep,e1',el',hxq,e2q,e3q,r3q,e4q⟩:=fE hq hqi;cases ep;rw[e1q] at e1';cases e1';rw[hy] at hxq;cases hxq;have s4:=ah.new (o:=.tup [x,.ref qc]) ht;exists t,_,rfl,au.of af,rfl,_,_,rfl,_,_,rfl,rfl;generalize (upd H3 t (.tup [x,.ref qc]))=H4 at s4 ⊢;have s24:=g4.trans s4;have s04:=s02.trans s24;have hpv4:=hpv.aM λ p zs e=>s24 _ _ e
        obtain⟨oq,ou,ex,hoq,hou⟩:=id hpv4;subst ex
        first | (change ∃v,_/\_) | (refine gy ?_;refine bf ?_)
        exists _,rfl,_,rfl,_,rfl,oq,_,0,_,rfl,rfl,au.of hoq,cg,pp,_,_,_,rfl,rfl,au.of (s04 _ _ e1),(show eY vs c.1=some (V.ref pc) by rw[show c.1=((c.1.toNat:Nat):Int) by omega];exact bH hxp),_,rfl,_,rfl;have hmp:=Hy hpi;have hmq:=Hy hqi;refine⟨_,pc,qc,pa,da,ea,da',ea',wsd,wsd',us,c,ds,ds',e',f',paper,xs,rfl,hpv4,s04 _ _ e2,s04 _ _ e3,r3.same s04 (bE ds),s04 _ _ e4,s04 _ _ e2q,s04 _ _ e3q,r3q.same s04 (bE ds'),s04 _ _ e4q,s04 _ _ hpa,hpp.same s04,ic c hcm,(pok.eX _ hmp).2,Hu (pok.eX _ hmp).1 hm12,hx,(layp _ hmp).1,(layq _ hmq).1,(layp _ hmp).2,(layq _ hmq).2,(λ w hw=>by rw[hlen'];exact nR qin hmq hw),bV,λ b H5 hb5 s5=>?_⟩;refine⟨s5 _ _ (s4 _ _ g2),_,_,bs++[b],rfl,(by rw[HA];rfl),(by rw[Ht,g1];rfl),af,λ k b' c' p p' h1 h2 h3 h4=>?_,(s24.trans s5).put na⟩;by_cases hk:k=i
        . subst hk
          rw[Jk ⋯,g1,Nat.sub_self] at h1;cases h1;rw[hc] at h2;cases h2;rw[hpi] at h3;cases h3;rw[hqi] at h4;cases h4;exact hb5
        . have hkl:k<bs.length:=by
            have:=(HD.mp h1).1;rw[Ht] at this;simp at this;omega
          rw[IL hkl] at h1;exact g3 k b' c' p p' h1 h2 h3 h4
      . rintro zs Hi H3 ⟨c1,c2,bs,rfl,rfl,g1,g2,g3,g4⟩
        exists acc,bs,rfl,aT.of g2;have hbl:bs.length=paper.length:=by omega
        refine q _ H3 ⟨λ hb=>⟨hlen',hall,⟨c0,hc0,hz,hsnd⟩,λ k c p p' h1 h2 h3=>?_⟩,λ hP=>?_⟩ (s02.trans g4)
        . have hk:k<bs.length:=by rw[hbl];exact (HD.mp h1).1
          have hbk:bs[k]?=some bs[k]:=by simp[hk]
          rw[Ir] at hb;exact (g3 k _ c p p' hbk h1 h2 h3).mp (hb _ (Ik hk))
        . rw[Ir]
          intro b hb;obtain⟨k,hk⟩:=Jw hb;have hkl:k<paper.length:=by rw[<-hbl];exact (HD.mp hk).1
          have h1:paper[k]?=some paper[k]:=by simp[hkl]
          have hcin:=hall _ (Ik hkl);generalize paper[k]=c at h1 hcin;have hpl:c.1.toNat<ps.length:=by omega
          have h2:ps[c.1.toNat]?=some ps[c.1.toNat]:=by simp[hpl]
          have h3:qs[k]?=some (qs[k]'⋯):=by simp[show k<qs.length by omega]
          exact (g3 k b c _ _ hk h1 h2 h3).mpr (hP.all k c _ _ h1 h2 h3)
theorem yQ {f:Addr} {fd:FuncData} (F:b4 K "_law_bag" "_law_bag" nv f fd) (Z:Bl mg)  : bA P w K mg base bY 1 f fd ["script", "k"] (CG K):=by
 refine F.ok (k:=0) lP (λ vs H Q E h=>?_) (λ cdv A outer s H vs Q E hr h=>?_)
 ·obtain⟨a,ns,k,rfl,_⟩:=h;rfl
 ·obtain⟨a,ns,k,rfl,hS,hk,q⟩:=h;refine⟨_,(ai (aN (i:=2) lP.nd rfl (Hj rfl) ao)
   (ai (aS (aB fP (pv 1) (aP aO rfl Z.len bM (aa (pv 0) ae)) (aG _))
   (ar (aN (i:=2) lP.nd rfl (Hj rfl) (bh jm (aH cf (pv 0) (pv 1) (λ _ _=>rfl)) (bh Dk (bh mz ao ao) (bh mz ao ao)))))
   aK)
   (ai (aS (aB fP (pv 2) (bh mz ao ao) (aG _))
   (ar (aF (cU (aa ao (aa (bh cK ao (bh jm (bh cK (bh iP (pv 2) ao) (bh iP ao (pv 1))) ao)) ae)))))
   aK)
   (ar (aF (cU (aa (pv 2) (aa (bh cK ao (bh jm (bh cK (pv 2) (pv 1)) ao)) ae)))))))),?_⟩
  exists _,rfl,_,rfl,_,_,rfl,.inl hS,_,_,rfl,rfl,_,rfl;refine b5 (λ hc=>?_) (λ hc=>?_)
  ·have hl:k<((ns.map V.int).length:Nat):=of_decide_eq_true hc;obtain⟨v,hv,hm⟩:=yc hk hl;obtain⟨z,_,rfl⟩:=HE.mp hm;exists _,rfl,_,rfl,_,_,_,_,rfl,rfl,hS,hv,10,60,rfl,rfl,⟨by decide,by decide,by decide⟩,10,60,rfl,rfl,⟨by decide,by decide,by decide⟩,_,_,rfl,rfl,(by unfold IntMulOk;decide),_,_,rfl,rfl,(show (0:Int)<10 ^ (60:Int).toNat*10 ^ (60:Int).toNat by decide);exists _,rfl,10,18,rfl,rfl,⟨by decide,by decide,by decide⟩,_,_,rfl,rfl,_,rfl;refine b5 (λ hd=>?_) (λ hd=>?_)
   ·refine⟨_,rfl,_,_,rfl,rfl,.inr ⟨by decide,by decide⟩,_,rfl,_,_,rfl,rfl,.inl ⟨by decide,by decide⟩,_,_,rfl,rfl,_,_,rfl,rfl,(show (0:Int)<2147483646 by decide),_,_,rfl,rfl,ln2,λ p hp=>?_⟩;exact q p _ hp ⟨_,_,af,by omega,by omega⟩ (ah.new hp)
   ·refine⟨_,rfl,_,rfl,_,rfl,_,_,rfl,rfl,_,_,rfl,rfl,(show (0:Int)<2147483646 by decide),_,_,rfl,rfl,ln2,λ p hp=>?_⟩;exact q p _ hp ⟨_,_,af,by omega,by omega⟩ (ah.new hp)
  ·exists _,rfl,10,18,rfl,rfl,⟨by decide,by decide,by decide⟩,_,_,rfl,rfl,_,rfl;refine b5 (λ hd=>?_) (λ hd=>?_)
   ·refine⟨_,rfl,_,_,rfl,rfl,.inr ⟨by decide,by decide⟩,_,rfl,_,_,rfl,rfl,.inl ⟨by decide,by decide⟩,_,_,rfl,rfl,_,_,rfl,rfl,(show (0:Int)<2147483646 by decide),_,_,rfl,rfl,ln2,λ p hp=>?_⟩;exact q p _ hp ⟨_,_,af,by omega,by omega⟩ (ah.new hp)
   ·refine⟨_,rfl,_,rfl,_,rfl,_,_,rfl,rfl,_,_,rfl,rfl,(show (0:Int)<2147483646 by decide),_,_,rfl,rfl,ln2,λ p hp=>?_⟩;exact q p _ hp ⟨_,_,af,by omega,by omega⟩ (ah.new hp)
theorem wA {f:Addr} {fd:FuncData} (F:b4 K "_law_take" "_law_take" lQ f fd) (Z:Bl mg)  : bA P w K mg base bY 1 f fd ["bag", "many"] fL:=by
 refine F.ok (k:=0) oP (λ vs H Q E h=>?_) (λ cdv A outer s H vs Q E hr h=>?_)
 ·obtain⟨b,m,rfl,_⟩:=h;rfl
 ·obtain⟨b,m,rfl,⟨x,y,hb,h0,h1⟩,hm,q⟩:=h;refine⟨_,(ai (aS (aB iJ (aH cf (pv 0) ao (λ _ _=>rfl)) ao (aG _))
   (ai (aN (i:=2) oP.nd rfl (Hj rfl) (bh jm (aH cf (pv 0) ao (λ _ _=>rfl)) (pv 1)))
   (ai (cA (bh AZ (aH cf (pv 0) ao (λ _ _=>rfl)) (pv 1)) (hR (pv 0) ao set_list))
   (ar (aF (pv 2)))))
   aK)
   (ai (cA (bh jm (bh iP (aH cf (pv 0) ao (λ _ _=>rfl)) ao) ao) (hR (pv 0) ao set_list))
   (ar (aF (bh jm (bh wO (bh jm (bh iP (aH cf (pv 0) ao (λ _ _=>rfl)) (aH cf (pv 0) ao (λ _ _=>rfl))) ao) ao) (pv 1)))))),?_⟩
  exists _,rfl,b,_,0,_,rfl,rfl,aT.of hb,cg,_,_,rfl,rfl,_,rfl;refine b5 (λ hc=>?_) (λ hc=>?_)
  ·exists _,rfl,b,_,0,_,rfl,rfl,aT.of hb,cg,_,rfl,_,_,rfl,rfl,hm.1;exists _,rfl,b,_,0,_,rfl,rfl,aT.of hb,cg,_,rfl,_,_,rfl,rfl,hm,_,rfl,b,_,0,0,rfl,rfl,hb,rfl;exists _,rfl;exact q _ _ (Int.emod_nonneg _ (by have:=hm.1;omega)) (Int.emod_lt_of_pos _ hm.1) ⟨_,_,af,h0,h1⟩ Fix.CF
  ·exists _,rfl,b,_,1,_,rfl,rfl,aT.of hb,cB,_,_,rfl,rfl,.inr ⟨by decide,by decide⟩,_,_,rfl,rfl,(show (0:Int)<2147483647 by decide),_,rfl,b,_,1,1,rfl,rfl,hb,rfl;exists _,rfl,b,_,1,_,rfl,rfl,aT.of af,cB,_,rfl,b,_,1,_,rfl,rfl,aT.of af,cB,_,_,rfl,rfl,.inl ⟨by omega,by omega⟩,_,_,rfl,rfl,(show (0:Int)<2147483629 by decide),_,_,rfl,rfl,⟨by decide,by decide⟩,_,rfl,_,_,rfl,rfl,hm.1;exact q _ _ (Int.emod_nonneg _ (by have:=hm.1;omega)) (Int.emod_lt_of_pos _ hm.1) ⟨_,_,af,by omega,by omega⟩ Fix.CF
theorem vS {f:Addr} {fd:FuncData} (F:b4 K "_law_names" "_law_names" j9 f fd) (Z:Bl mg) (ac:Own P w K mg base "_law_take" 1 ["bag", "many"] fL):bA P w K mg base bY 2 f fd ["bag"] w5:=by
  refine F.ok (k:=1) er (λ vs H Q E h=>?_) (λ cdv A outer s H vs Q E hr h=>?_)
  . obtain⟨b,rfl,_⟩:=h
    rfl
  . obtain⟨b,rfl,hB,q⟩:=h
    refine⟨_,(ai (aN (i:=1) er.nd rfl (Hz rfl) bG)
      (ai (aN (i:=2) er.nd rfl (Hj rfl) (bh cK ao (aw ac (hr.mono ⋯) rfl (aa (pv 0) (aa ao ae)))))
      (ai (jw (i:=3) ["k"] ["letters", "bag"] [1,0] rfl er.nd rfl rfl rfl (fC rfl Z.range (aa (bh cK ao (aw ac (hr.mono ⋯) rfl (aa (pv 0) (aa ao ae)))) ae)) rfl ⋯ ⋯ ⋯ ⟨⟨rfl,.inl rfl,rfl⟩,⟨⟨rfl,.inl rfl,rfl⟩,True.intro⟩⟩ (λ _ _ _ _=>(ay (i:=0) (show ((["k"]:List Str)++(["letters", "bag"]:List Str)).Nodup by decide) rfl (Hj rfl) (hf:=Hz rfl))) (λ _ _ _ _=>dG) (λ _ _ _ _=>(aH ze (pv 1) (aw ac (hr.mono ⋯) rfl (aa (pv 2) (aa ao ae))) (λ _ _=>rfl))))
      (ai (aN (i:=4) er.nd rfl (Hj rfl) (aw ac (hr.mono ⋯) rfl (aa (pv 0) (aa (aP aO rfl Z.len bM (aa (pv 3) ae)) ae))))
      (ai (aN (i:=5) er.nd rfl (Hj rfl) (cU ae))
      (ai (dJ PassesOwn.never rfl (fC rfl Z.range (aa (pv 2) ae)) (ay (i:=6) er.nd rfl (Hj rfl))
      (ai (aN (i:=7) er.nd rfl (Hj rfl) (bw jt rfl Z.list qU (aa (pv 3) ae)))
      (ai (cA (aH ze (pv 1) (aw ac (hr.mono ⋯) rfl (aa (pv 0) (aa ao ae))) (λ _ _=>rfl)) (hR (pv 7) (pv 4) set_list))
      (ar (aS (aB uK (gI PySem.F.plainAttrs_str PySem.F.slot_str_join PySem.F.type_str_join w4 bG (aa (pv 7) ae)) (pv 5) (by with_unfolding_all rfl))
      (ar (eD (gI PySem.F.plainAttrs_list PySem.F.slot_list_append PySem.F.type_list_append fW (pv 5) (aa (gI PySem.F.plainAttrs_str PySem.F.slot_str_join PySem.F.type_str_join w4 bG (aa (pv 7) ae)) ae))))
      aK)))))
      (ar (aF (pv 5))))))))),?_⟩
    refine⟨_,rfl,b,4,rfl,hB,⟨by decide,by decide⟩,λ m H1 m0 m1 B1 X1=>⟨_,_,rfl,rfl,?_⟩⟩;refine⟨_,rfl,b,8,rfl,B1,⟨by decide,by decide⟩,λ k H2 k0 k1 B2 X2=>⟨_,_,rfl,rfl,_,rfl,⋯,⋯,λ acc na=>?_⟩⟩;refine kW (lo:=0) (λ i ys Hi H'=>∃(v:Option V) (cs:List Nat),Hi=[v,some (.str pS),some (.ref b)]/\ys=(cs.map one).map V.str/\cs.length=i/\(∀c∈cs,97<=c/\c<=122)/\H' acc=some (.lst ys)/\cy H' b/\Fix b H2 H') ?_ ?_ ?_ ?_
    . exact⟨none,[],rfl,rfl,rfl,(λ _ h=>nomatch h),af,B2.new na,Fix.new na⟩
    . rintro i ys Hi H' hi ⟨v,cs,rfl,rfl,hl,_,ha,_⟩
      exists ha;rw[Hk,Hk];exact bB ⋯
    . rintro i ys Hi H' hi ⟨v,cs,rfl,rfl,hl,hc,ha,B',X'⟩
      refine cb ?_;refine gy ?_;refine bf ?_;refine⟨_,rfl,_,rfl,b,26,rfl,B',⟨by decide,by decide⟩,λ r H3 r0 r1 B3 X3=>?_⟩;obtain⟨c,hat,c0,c1⟩:=zu r0 r1;have hab:acc≠b:=B2.d6 na;have ha3:=X3 acc _ ha hab;exists pS,r,c,rfl,rfl,w9,hat,ha3,_,cs++[c],rfl,?_,?_,?_,af,?_
      . rw[HA,HA];rfl
      . rw[Ht,hl];rfl
      . intro d hd
        rcases HI.mp hd with hd | hd
        . exact hc d hd
        . rw[Hm.mp hd];exact⟨c0,c1⟩
      . obtain⟨x,y,e,z⟩:=B3
        exact⟨x,y,by rw[av hab.symm];exact e,z⟩
      . intro d o hd nd
        rw[av (aQ hd na)];exact (X'.trans X3) d o hd nd
    . rintro ys Hi H3 ⟨v,cs,rfl,rfl,hl,hc,ha,B3,X3⟩
      have hab:acc≠b:=B2.d6 na;have hl1:1<=cs.length:=by omega
      have hl8:cs.length<=8:=by omega
      have F3:Fix b H H3:=(X1.trans X2).trans X3;have el:(((cs.map one).map V.str).length:Int)=cs.length:=by simp
      refine⟨_,rfl,_,rfl,acc,_,rfl,.inl (aT.of ha),b,_,rfl,B3,⟨by omega,dB ⋯ ⋯⟩,λ at_ H4 t0 t1 B4 X4=>?_⟩;refine⟨(by show 0<=sizeLine;decide),λ nl nn=>?_⟩;have hnb:nl≠b:=B4.d6 nn;have ha4:H4 acc=some (.lst ((cs.map one).map V.str)):=X4 acc _ ha hab;have hna:nl≠acc:=λ z=>by rw[z,ha4] at nn;cases nn
      have F4:Fix b H H4:=F3.trans X4;refine⟨_,rfl,_,rfl,⋯,⋯,jS (lo:=0) (λ i Hh H'=>∃(u1 u2:Option V) (xs:List Str),Hh=[some (.ref b),some (.str pS),some (.int (1+m)),some (.ref acc),some (.int at_),some (.ref nl),u1,u2] /\
        H' nl=some (.lst (xs.map V.str))/\xs.length<=i/\(0<i->xs≠[])/\(∀x∈xs,dM x)/\H' acc=some (.lst ((cs.map one).map V.str))/\cy H' b/\Fix b H H') ?_ ?_ ?_⟩
      . exact⟨_,_,[],rfl,af,Hn _,(λ h=>absurd h (HG _)),(λ _ h=>nomatch h),(by rw[av hna.symm];exact ha4),B4.new nn,F4.trans (Fix.new nn)⟩
      . rintro i Hh H' hi ⟨u1,u2,xs,rfl,hn,hx,hx0,bc,ha',B',X'⟩
        refine⟨_,rfl,acc,_,rfl,.inl (aT.of ha'),λ nm mm=>?_⟩;have nmb:nm≠b:=B'.d6 mm;have nma:nm≠acc:=λ z=>by rw[z,ha'] at mm;cases mm
        have nmn:nm≠nl:=λ z=>by rw[z,hn] at mm;cases mm
        refine⟨_,rfl,_,rfl,b,26,rfl,B'.new mm,⟨by decide,by decide⟩,λ r H5 r0 r1 B5 X5=>?_⟩;obtain⟨c,hat,c0,c1⟩:=zu r0 r1;have h5:H5 nm=some (.lst ((cs.map one).map V.str)):=X5 nm _ af nmb;have hn5:H5 nl=some (.lst (xs.map V.str)):=X5 nl _ (by rw[av nmn.symm];exact hn) hnb;have ha5:H5 acc=some (.lst ((cs.map one).map V.str)):=X5 acc _ (by rw[av nma.symm];exact ha') hab;obtain⟨j,rfl⟩:∃j:Nat,at_=j:=⟨at_.toNat,by omega⟩;have hj:j<cs.length:=by omega
        have hix:mE ((cs.map one).map V.str).length (j:Int)=some j:=by
          unfold mE;rw[if_pos ⋯,if_pos (by rw[el];omega)];simp
        exists pS,r,c,rfl,rfl,w9,hat,_,rfl,_,rfl,nm,_,(j:Int),j,rfl,rfl,h5,hix;have eset:((cs.map one).map V.str).set j (.str ⟨#[c]⟩)=((cs.set j c).map one).map V.str:=by
          rw[List.map_set,List.map_set];rfl
        rw[eset];have hc':∀d∈cs.set j c,97<=d/\d<=122:=λ d hd=>by
          rcases Jy hd with hd | hd
          . exact hc d hd
          . rw[hd];exact⟨c0,c1⟩
        have hjl:(((cs.set j c).map one).map (·.length)).sum+((cs.set j c).map one).length*(Str.ofString "").length<=16777216:=by
          have e1:(Str.ofString "").length=0:=by decide
          have e2:∀l:List Nat,((l.map one).map (·.length)).sum=l.length:=by
            intro l
            induction l with
            | nil=>rfl
            | cons a l ih=>simp only[HN,List.sum_cons,ih,HX];show 1+l.length=_;omega
          rw[e1,e2,IP];omega
        have nk:dM (Txt.join (Str.ofString "") ((cs.set j c).map one)):=by
          rw[Bb];have ej:=L2.join_ones (cs.set j c);have eL:(Txt.join Str.empty ((cs.set j c).map one)).length=(cs.set j c).length:=by
            have:=congrArg Iz ej;rw[Ih] at this;exact this
          exists ?_,?_
          . rw[eL,IP];exact hl1
          . rw[eL,IP];exact hl8
          . rw[ej];exact hc'
        have n6:upd H5 nm (.lst (((cs.set j c).map one).map V.str)) nl=some (.lst (xs.map V.str)):=by rw[av nmn.symm];exact hn5
        have a6:upd H5 nm (.lst (((cs.set j c).map one).map V.str)) acc=some (.lst ((cs.map one).map V.str)):=by rw[av nma.symm];exact ha5
        have B6:cy (upd H5 nm (.lst (((cs.set j c).map one).map V.str))) b:=by
          obtain⟨x,y,e,z⟩:=B5;exact⟨x,y,by rw[av nmb.symm];exact e,z⟩
        have F6:Fix b H (upd H5 nm (.lst (((cs.set j c).map one).map V.str))):=λ d o hd nd=>by
          have h1:=X' d o hd nd;have nd':d≠nm:=λ z=>by rw[z,mm] at h1;cases h1
          rw[av nd'];exact X5 d o (by rw[av nd'];exact h1) nd
        have flat:(xs.map V.str).all iK=true:=by
          rw[Ir];intro v hv;obtain⟨x,_,rfl⟩:=HE.mp hv;rfl
        exists rfl,_,rfl,_,nm,_,rfl,rfl,aT.of af,hjl,_,rfl,nl,_,rfl,.inl (aT.of n6),rfl,flat,_,rfl;refine b5 (λ hin=>?_) (λ hin=>?_)
        . exists _,rfl,.inl ⟨rfl,_,aT.of n6⟩,rfl,_,rfl,_,nm,_,rfl,rfl,aT.of af,hjl,nl,_,_,rfl,rfl,n6,?_
          . rw[Hk]
            have:i<4:=by omega
            exact bB ⋯
          . exists _,_,xs++[_],rfl,(by rw[af,HA];rfl),(by rw[Ht];exact Nat.succ_le_succ hx),(λ _=>by simp),?_,(by rw[av hna.symm];exact a6),?_
            . intro x hxm
              rcases HI.mp hxm with hxm | hxm
              . exact bc x hxm
              . rw[Hm.mp hxm];exact nk
            . obtain⟨x,y,e,z⟩:=B6
              exact⟨x,y,by rw[av hnb.symm];exact e,z⟩
            . intro d o hd nd
              have h1:=F6 d o hd nd;have nd':d≠nl:=λ z=>by
                have h2:=F4 d o hd nd;rw[z,nn] at h2;cases h2
              rw[av nd'];exact h1
        . have hx':xs≠[]:=by
            intro e;subst e;exact hin rfl
          exact⟨_,_,xs,rfl,n6,JW hx,λ _=>hx',bc,a6,B6,F6⟩
      . rintro Hh H' ⟨u1,u2,xs,rfl,hn,hx,hx0,bc,ha',B',X'⟩
        exists _,rfl;have hm:(1+m).toNat<=4:=by omega
        have hm0:0<(1+m).toNat:=by omega
        exact q nl xs H' ⟨hn,hnb,hx0 hm0,by omega,bc⟩ (Hu hx hm) B' X'
theorem ui {f:Addr} {fd:FuncData} (F:b4 K "_law_number" "_law_number" jP f fd) (Z:Bl mg) (ac:Own P w K mg base "_law_take" 1 ["bag", "many"] fL):bA P w K mg base bY 2 f fd ["bag"] oY:=by
  refine F.ok (k:=1) uf (λ vs H Q E h=>?_) (λ cdv A outer s H vs Q E hr h=>?_)
  . obtain⟨b,rfl,_⟩:=h
    rfl
  . obtain⟨b,rfl,hB,q⟩:=h
    refine⟨_,(ai (aS (aB bC (aw ac (hr.mono ⋯) rfl (aa (pv 0) (aa ao ae))) ao (aG _))
      (ar (aF (bh iP (bh eM (bh eM (bh mz ao ao) ao) (aw ac (hr.mono ⋯) rfl (aa (pv 0) (aa ao ae)))) (bh eM ao (bh iP ao (aw ac (hr.mono ⋯) rfl (aa (pv 0) (aa ao ae))))))))
      aK)
      (ar (aF (bh eM (aw ac (hr.mono ⋯) rfl (aa (pv 0) (aa ao ae))) ao)))),?_⟩
    refine⟨_,rfl,b,8,rfl,hB,⟨by decide,by decide⟩,λ r H1 r0 r1 B1 X1=>⟨rfl,_,rfl,?_⟩⟩;refine b5 (λ hc=>?_) (λ hc=>?_)
    . exists 10,40,rfl,rfl,⟨by decide,by decide,by decide⟩,_,_,rfl,rfl
      refine⟨_,rfl,b,3,rfl,B1,⟨by decide,by decide⟩,λ r2 H2 r20 r21 B2 X2=>⟨_,_,rfl,rfl,?_⟩⟩;refine⟨_,rfl,b,2,rfl,B2,⟨by decide,by decide⟩,λ r3 H3 r30 r31 B3 X3=>?_⟩;exists _,_,rfl,rfl,.inl ⟨by decide,by decide⟩,_,_,rfl,rfl,_,_,rfl,rfl,.inr ⟨by omega,by omega⟩;refine q _ H3 ?_ B3 ((X1.trans X2).trans X3);have e:(10:Int) ^ (40:Int).toNat=10 ^ 40:=by decide
      rw[e];obtain rfl | rfl:r3=0\/r3=1:=by omega
      . rw[show (1:Int)-2*0=1 by decide,Int.mul_one];unfold kX;omega
      . rw[show (1:Int)-2*1 = -1 by decide,Int.mul_neg,Int.mul_one];unfold kX;omega
    . refine⟨_,rfl,b,8,rfl,B1,⟨by decide,by decide⟩,λ r2 H2 r20 r21 B2 X2=>⟨_,_,rfl,rfl,?_⟩⟩
      exact q _ H2 (by unfold kX;omega) B2 (X1.trans X2)
theorem wB {f:Addr} {fd:FuncData} (F:b4 K "_law_deed" "_law_deed" lR f fd) (Z:Bl mg) (ac:Own P w K mg base "_law_take" 1 ["bag", "many"] fL) (dR:Own P w K mg base "_law_number" 2 ["bag"] oY):bA P w K mg base bY 3 f fd ["bag", "names"] zq:=by
  refine F.ok (k:=2) kd (λ vs H Q E h=>?_) (λ cdv A outer s H vs Q E hr h=>?_)
  . obtain⟨b,l,xs,rfl,_⟩:=h
    rfl
  . obtain⟨b,l,xs,rfl,hB,hN,q⟩:=h
    refine⟨_,(ai (aN (i:=2) kd.nd rfl (Hj rfl) (aH cf (cU (aa bG (aa bG (aa bG (aa bG (aa bG (aa bG (aa bG ae)))))))) (aw ac (hr.mono ⋯) rfl (aa (pv 0) (aa ao ae))) (λ _ _=>rfl)))
      (ai (aN (i:=3) kd.nd rfl (Hj rfl) (aH cf (pv 1) (aw ac (hr.mono ⋯) rfl (aa (pv 0) (aa (aP aO rfl Z.len bM (aa (pv 1) ae)) ae))) (λ _ _=>rfl)))
      (ai (aS (aB bC (pv 2) bG (aG _))
      (ar (aF (aX (aa (pv 2) (aa (pv 3) (aa (aH cf (pv 1) (aw ac (hr.mono ⋯) rfl (aa (pv 0) (aa (aP aO rfl Z.len bM (aa (pv 1) ae)) ae))) (λ _ _=>rfl)) ae))))))
      aK)
      (ai (aS (PW.pt (fO (aB bC (pv 2) bG (aG _)) (ff (aB bC (pv 2) bG (aG _)))))
      (ar (aF (aX (aa (pv 2) (aa (pv 3) (aa (aw dR (hr.mono ⋯) rfl (aa (pv 0) ae)) ae))))))
      aK)
      (ar (aF (aX (aa (pv 2) (aa (pv 3) ae))))))))),?_⟩
    refine⟨G7,λ l0 m0=>?_⟩;refine⟨_,rfl,b,7,rfl,hB.new m0,⟨by decide,by decide⟩,λ r H1 r0 r1 B1 X1=>?_⟩;have h0:H1 l0=some (.lst [.str "put",.str "copy",.str "add",.str "read",.str "tell",.str "tell",.str "add"]):=X1 l0 _ af (hB.d6 m0);have F1:Fix b H H1:=(Fix.new m0).trans X1;have N1:=hN.fix F1;have hw:∃w:Str,(w = "put" \/ w = "copy" \/ w = "add" \/ w = "read" \/ w = "tell")/\eY [V.str "put",.str "copy",.str "add",.str "read",.str "tell",.str "tell",.str "add"] r=some (V.str w):=by
      obtain rfl | rfl | rfl | rfl | rfl | rfl | rfl:r=0\/r=1\/r=2\/r=3\/r=4\/r=5\/r=6:=by omega
      . exact⟨_,.inl rfl,bH (j:=0) rfl⟩
      . exact⟨_,.inr (.inl rfl),bH (j:=1) rfl⟩
      . exact⟨_,.inr (.inr (.inl rfl)),bH (j:=2) rfl⟩
      . exact⟨_,.inr (.inr (.inr (.inl rfl))),bH (j:=3) rfl⟩
      . exact⟨_,.inr (.inr (.inr (.inr rfl))),bH (j:=4) rfl⟩
      . exact⟨_,.inr (.inr (.inr (.inr rfl))),bH (j:=5) rfl⟩
      . exact⟨_,.inr (.inr (.inl rfl)),bH (j:=6) rfl⟩
    obtain⟨w,hw,hat⟩:=hw;exists l0,_,r,_,rfl,rfl,aT.of h0,hat;obtain⟨p0,p1⟩:=N1.pos;refine⟨_,rfl,_,rfl,_,rfl,l,_,rfl,.inl (aT.of N1.at_),b,_,rfl,B1,⟨p0,dB p0 p1⟩,λ r2 H2 r20 r21 B2 X2=>?_⟩;have N2:=N1.fix X2;obtain⟨x,hx,hxm⟩:=kZ r20 r21;exists l,_,r2,_,rfl,rfl,aT.of N2.at_,hx;exists _,rfl,rfl,_,rfl
    rcases hw with rfl | rfl | rfl | rfl | rfl
    ·
      rw[show decide (V.str "put" = V.str "copy")=false by decide];refine br ⟨_,rfl,rfl,_,rfl,?_⟩;rw[show decide (V.str "put" = V.str "put")=true by decide];refine bf (bf ⟨_,rfl,_,rfl,_,rfl,b,rfl,B2,λ n H3 nk B3 X3=>⟨sG,λ t mt=>?_⟩⟩);exact q _ (.put x n) _ (.tup af (.cons (.str _) (.cons (.str _) (.cons (.int _) .nil)))) ⟨hxm,nk⟩ (B3.new mt) (((F1.trans X2).trans X3).trans (Fix.new mt))
    ·
      rw[show decide (V.str "copy" = V.str "copy")=true by decide];obtain⟨p0,p1⟩:=N2.pos;refine bf ⟨_,rfl,_,rfl,_,rfl,_,rfl,_,rfl,l,_,rfl,.inl (aT.of N2.at_),b,_,rfl,B2,⟨p0,dB p0 p1⟩,λ r3 H3 r30 r31 B3 X3=>?_⟩;have N3:=N2.fix X3;obtain⟨y,hy,hym⟩:=kZ r30 r31;refine⟨l,_,r3,_,rfl,rfl,aT.of N3.at_,hy,sG,λ t mt=>?_⟩;exact q _ (.copy x y) _ (.tup af (.cons (.str _) (.cons (.str _) (.cons (.str _) .nil)))) ⟨hxm,hym⟩ (B3.new mt) (((F1.trans X2).trans X3).trans (Fix.new mt))
    ·
      rw[show decide (V.str "add" = V.str "copy")=false by decide];refine br ⟨_,rfl,rfl,_,rfl,?_⟩;rw[show decide (V.str "add" = V.str "put")=false by decide];refine br ⟨_,rfl,rfl,_,rfl,?_⟩;rw[show decide (V.str "add" = V.str "add")=true by decide];refine bf ⟨_,rfl,_,rfl,_,rfl,b,rfl,B2,λ n H3 nk B3 X3=>⟨sG,λ t mt=>?_⟩⟩;exact q _ (.add x n) _ (.tup af (.cons (.str _) (.cons (.str _) (.cons (.int _) .nil)))) ⟨hxm,nk⟩ (B3.new mt) (((F1.trans X2).trans X3).trans (Fix.new mt))
    ·
      rw[show decide (V.str "read" = V.str "copy")=false by decide];refine br ⟨_,rfl,rfl,_,rfl,?_⟩;rw[show decide (V.str "read" = V.str "put")=false by decide];refine br ⟨_,rfl,rfl,_,rfl,?_⟩;rw[show decide (V.str "read" = V.str "add")=false by decide];refine br ⟨_,rfl,_,rfl,ln2,λ t mt=>?_⟩;exact q _ (.read x) _ (.tup af (.cons (.str _) (.cons (.str _) .nil))) hxm (B2.new mt) ((F1.trans X2).trans (Fix.new mt))
    ·
      rw[show decide (V.str "tell" = V.str "copy")=false by decide];refine br ⟨_,rfl,rfl,_,rfl,?_⟩;rw[show decide (V.str "tell" = V.str "put")=false by decide];refine br ⟨_,rfl,rfl,_,rfl,?_⟩;rw[show decide (V.str "tell" = V.str "add")=false by decide];refine br ⟨_,rfl,_,rfl,ln2,λ t mt=>?_⟩;exact q _ (.tell x) _ (.tup af (.cons (.str _) (.cons (.str _) .nil))) hxm (B2.new mt) ((F1.trans X2).trans (Fix.new mt))
theorem yR {f:Addr} {fd:FuncData} (F:b4 K "_law_end" "_law_end" ny f fd) (Z:Bl mg) (ac:Own P w K mg base "_law_take" 1 ["bag", "many"] fL) (dR:Own P w K mg base "_law_number" 2 ["bag"] oY):bA P w K mg base bY 3 f fd ["bag", "names", "count"] zr:=by
  refine F.ok (k:=2) jb (λ vs H Q E h=>?_) (λ cdv A outer s H vs Q E hr h=>?_)
  . obtain⟨b,l,xs,c,rfl,_⟩:=h
    rfl
  . obtain⟨b,l,xs,c,rfl,hB,hN,c0,c1,q⟩:=h
    refine⟨_,(ai (aN (i:=3) jb.nd rfl (Hj rfl) (aw ac (hr.mono ⋯) rfl (aa (pv 0) (aa ao ae))))
      (ai (aS (aB bC (pv 3) ao (aG _))
      (ar (aF (aX (aa bG ae))))
      aK)
      (ai (aS (aB fP (pv 3) ao (aG _))
      (ar (aF (aX (aa bG (aa (aw ac (hr.mono ⋯) rfl (aa (pv 0) (aa (pv 2) ae))) ae)))))
      aK)
      (ai (aN (i:=4) jb.nd rfl (Hj rfl) (aH cf (cU (aa bG (aa bG ae))) (bh wO (aw ac (hr.mono ⋯) rfl (aa (pv 0) (aa ao ae))) ao) (λ _ _=>rfl)))
      (ai (aN (i:=5) jb.nd rfl (Hj rfl) (aH cf (pv 1) (aw ac (hr.mono ⋯) rfl (aa (pv 0) (aa (aP aO rfl Z.len bM (aa (pv 1) ae)) ae))) (λ _ _=>rfl)))
      (ar (aF (aX (aa (pv 4) (aa (pv 5) (aa (aw dR (hr.mono ⋯) rfl (aa (pv 0) ae)) (aa (aw ac (hr.mono ⋯) rfl (aa (pv 0) (aa (pv 2) ae))) (aa (aw ac (hr.mono ⋯) rfl (aa (pv 0) (aa (pv 2) ae))) ae))))))))))))),?_⟩
    have ck:(0:Int)<(c:Int)/\(c:Int).natAbs.log2<9000:=⟨by omega,dB ⋯ ⋯⟩;refine⟨_,rfl,b,9,rfl,hB,⟨by decide,by decide⟩,λ r H1 r0 r1 B1 X1=>?_⟩;exists _,rfl,rfl,_,rfl;refine b5 (λ hc=>?_) (λ hc=>?_)
    . refine⟨og,λ t mt=>?_⟩
      exact q _ .stop _ (.tup af (.cons (.str _) .nil)) True.intro (B1.new mt) (X1.trans (Fix.new mt))
    exists _,rfl,_,_,rfl,rfl,_,rfl;refine b5 (λ hd=>?_) (λ hd=>?_)
    . refine⟨_,rfl,_,rfl,b,_,rfl,B1,ck,λ p H2 p0 p1 B2 X2=>⟨ln2,λ t mt=>?_⟩⟩
      obtain⟨k,rfl⟩:∃k:Nat,p=k:=⟨p.toNat,by omega⟩;exact q _ (.go k) _ (.tup af (.cons (.str _) (.cons (.int _) .nil))) (show k<c by omega) (B2.new mt) ((X1.trans X2).trans (Fix.new mt))
    . refine⟨ln2,λ l0 m0=>?_⟩
      refine⟨_,rfl,b,3,rfl,B1.new m0,⟨by decide,by decide⟩,λ z H2 z0 z1 B2 X2=>⟨_,_,rfl,rfl,⟨by decide,by decide⟩,?_⟩⟩;have h0:H2 l0=some (.lst [.str "less",.str "is"]):=X2 l0 _ af (B1.d6 m0);have hw:∃w:Bool,eY [V.str "less",V.str "is"] (z / 2)=some (V.str (wT w)):=by
        obtain h | h:z / 2=0\/z / 2=1:=by omega
        . rw[h];exact⟨true,cg⟩
        . rw[h];exact⟨false,cB⟩
      obtain⟨w,hat⟩:=hw;exists l0,_,_,_,rfl,rfl,aT.of h0,hat;have F2:Fix b H H2:=(X1.trans (Fix.new m0)).trans X2;have N2:=hN.fix F2;obtain⟨p0,p1⟩:=N2.pos;refine⟨_,rfl,_,rfl,_,rfl,l,_,rfl,.inl (aT.of N2.at_),b,_,rfl,B2,⟨p0,dB p0 p1⟩,λ r3 H3 r30 r31 B3 X3=>?_⟩;have N3:=N2.fix X3;obtain⟨x,hx,hxm⟩:=kZ r30 r31;exists l,_,r3,_,rfl,rfl,aT.of N3.at_,hx;refine⟨_,rfl,_,rfl,_,rfl,b,rfl,B3,λ n H4 nk B4 X4=>?_⟩;refine⟨_,rfl,_,rfl,b,_,rfl,B4,ck,λ p H5 p0 p1 B5 X5=>?_⟩;refine⟨_,rfl,_,rfl,b,_,rfl,B5,ck,λ p' H6 p0' p1' B6 X6=>⟨EH,λ t mt=>?_⟩⟩;obtain⟨k,rfl⟩:∃k:Nat,p=k:=⟨p.toNat,by omega⟩;obtain⟨k',rfl⟩:∃k:Nat,p' = k:=⟨p'.toNat,by omega⟩;exact q _ (.aR w x n k k') _ (.tup af (.cons (.str _) (.cons (.str _) (.cons (.int _) (.cons (.int _) (.cons (.int _) .nil)))))) ⟨hxm,nk,by omega,by omega⟩ (B6.new mt) ((((F2.trans X3).trans X4).trans (X5.trans X6)).trans (Fix.new mt))
theorem wC {f:Addr} {fd:FuncData} (F:b4 K "_law_plan" "_law_plan" lS f fd) (Z:Bl mg) (ac:Own P w K mg base "_law_take" 1 ["bag", "many"] fL) (v6:Own P w K mg base "_law_names" 2 ["bag"] w5) (v8:Own P w K mg base "_law_deed" 3 ["bag", "names"] zq) (wf:Own P w K mg base "_law_end" 3 ["bag", "names", "count"] zr):bA P w K mg base bY 4 f fd ["bag", "count", "most"] zt:=by
  refine F.ok (k:=3) fN (λ vs H Q E h=>?_) (λ cdv A outer s H vs Q E hr h=>?_)
  . obtain⟨b,c,m,rfl,_⟩:=h
    rfl
  . obtain⟨b,c,m,rfl,hB,c0,c1,hm,q⟩:=h
    refine⟨_,(ai (aN (i:=3) fN.nd rfl (Hz rfl) (aw v6 (hr.mono ⋯) rfl (aa (pv 0) ae)))
      (ai (aN (i:=4) fN.nd rfl (Hj rfl) (cU ae))
      (ai (dJ PassesOwn.never rfl (fC rfl Z.range (aa (pv 1) ae)) (ay (i:=5) fN.nd rfl (Hj rfl))
      (ai (aN (i:=6) fN.nd rfl (Hj rfl) (aw ac (hr.mono ⋯) rfl (aa (pv 0) (aa (bh cK (pv 2) ao) ae))))
      (ai (aN (i:=7) fN.nd rfl (Hj rfl) (aw wf (hr.mono ⋯) rfl (aa (pv 0) (aa (pv 3) (aa (pv 1) ae)))))
      (ar (eD (gI PySem.F.plainAttrs_list PySem.F.slot_list_append PySem.F.type_list_append fW (pv 4) (aa (aX (aa (bw bL rfl Z.tuple cL (aa (dA ["j"] ["bag", "names"] [0,3] rfl (fC rfl Z.range (aa (pv 6) ae)) rfl ⋯ ⋯ ⋯ ⟨⟨rfl,.inl rfl,rfl⟩,⟨⟨rfl,.inl rfl,rfl⟩,True.intro⟩⟩ (λ _ _ _ _=>(ay (i:=0) (show ((["j"]:List Str)++(["bag", "names"]:List Str)).Nodup by decide) rfl (Hj rfl) (hf:=Hz rfl))) (λ _ _ _ _=>dG) (λ _ _ _ _=>(aw v8 (hr.mono ⋯) rfl (aa (pv 1) (aa (pv 2) ae))))) ae)) (aa (pv 7) ae))) ae)))))))
      (ar (aF (bw bL rfl Z.tuple cL (aa (pv 4) ae))))))),?_⟩
    refine⟨_,rfl,b,rfl,hB,λ l xs H1 N1 x4 B1 X1=>?_⟩;refine⟨(by show 0<=sizeLine;decide),λ pl pn=>?_⟩;have hpb:pl≠b:=B1.d6 pn;refine⟨_,rfl,_,rfl,⋯,⋯,jS (lo:=0) (λ i Hh H'=>∃(u1 u2 u3:Option V) (ps:List Piece) (vs:List V),Hh=[some (.ref b),some (.int c),some (.int m),some (.ref l),some (.ref pl),u1,u2,u3] /\
      H' pl=some (.lst vs)/\bp H' vs (ps.map eN)/\ps.length=i/\(∀p∈ps,(p.1.length<=m/\∀d∈p.1,fz xs d)/\jU xs c p.2)/\gn H' b l xs/\cy H' b/\Fix b H H'/\(∀d o,H1 d=some o->d≠b->H' d=some o)) ?_ ?_ ?_⟩
    . exact⟨_,_,_,[],[],rfl,af,.nil,rfl,(λ _ h=>nomatch h),N1.fix (Fix.new pn),B1.new pn,X1.trans (Fix.new pn),Fix.new pn⟩
    . rintro i Hh H' hi ⟨u1,u2,u3,ps,vs,rfl,hp,hr,hl,bc,N',B',X',Y'⟩
      refine⟨_,rfl,_,rfl,_,_,rfl,rfl,b,_,rfl,B',⟨by omega,dB ⋯ ⋯⟩,λ k H2 k0 k1 B2 X2=>?_⟩;have N2:=N'.fix X2;refine⟨_,rfl,_,rfl,_,rfl,b,l,xs,c,rfl,B2,N2,c0,⋯,λ ev e H3 re ek B3 X3=>?_⟩;have N3:=N2.fix X3;have hp3:H3 pl=some (.lst vs):=(X2.trans X3) pl _ hp hpb;have hr3:bp H3 vs (ps.map eN):=hr.fix B' (X2.trans X3) (cJ ps);refine⟨_,rfl,.inl ⟨rfl,_,aT.of hp3⟩,_,rfl,_,rfl,⋯,⋯,λ acc na=>?_⟩;have hab:acc≠b:=B3.d6 na;refine kW (lo:=0) (λ i ys Hi H'=>∃(v:Option V) (ds:List cH),Hi=[v,some (.ref b),some (.ref l)]/\bp H' ys (ds.map bI)/\ds.length=i/\(∀d∈ds,fz xs d)/\H' acc=some (.lst ys)/\cy H' b/\Fix b H3 H') ?_ ?_ ?_ ?_
      . exact⟨none,[],rfl,.nil,rfl,(λ _ h=>nomatch h),af,B3.new na,Fix.new na⟩
      . rintro i' ys Hi H4 hi' ⟨v,ds,rfl,rds,hl',_,ha,_⟩
        exists ha;rw[rds.len,Hk];exact bB ⋯
      . rintro i' ys Hi H4 hi' ⟨v,ds,rfl,rds,hl',hdk,ha,B4,X4⟩
        refine cb ?_;refine gy ?_;refine bf ?_;refine⟨_,rfl,_,rfl,b,l,xs,rfl,B4,N3.fix X4,λ dv d H5 rd dk B5 X5=>?_⟩;have ha5:=X5 acc _ ha hab;exists ha5,_,ds++[d],rfl,?_,(by rw[Ht,hl'];rfl),?_,af,?_
        . rw[HA]
          refine bp.app ((rds.fix B4 X5 (bE ds)).put ha5 (bE ds)) ?_;exact rd.aM (λ p zs e=>by rw[av (bP e ha5 (by intro z;cases z))];exact e) (oi d)
        . intro d' hd
          rcases HI.mp hd with hd | hd
          . exact hdk d' hd
          . rw[Hm.mp hd];exact dk
        . obtain⟨x,y,e,z⟩:=B5
          exact⟨x,y,by rw[av hab.symm];exact e,z⟩
        . intro d' o hd nd
          rw[av (aQ hd na)];exact (X4.trans X5) d' o hd nd
      . rintro ys Hi H4 ⟨v,ds,rfl,rds,hl',hdk,ha,B4,X4⟩
        refine⟨acc,ys,rfl,.inl ⟨aT.of ha,λ tp tn=>?_⟩⟩;refine⟨_,rfl,ln2,λ pc pcn=>?_⟩;have S6:ah H4 (upd (upd H4 tp (.tup ys)) pc (.tup [.ref tp,ev])):=(ah.new tn).trans (ah.new pcn);have hp6:(upd (upd H4 tp (.tup ys)) pc (.tup [.ref tp,ev])) pl=some (.lst vs):=S6 _ _ (X4 pl _ hp3 hpb);exists pl,_,_,rfl,rfl,hp6,?_
        . rw[hr.len,Hk,hl]
          exact bB ⋯
        have hpiece:bg (upd (upd H4 tp (.tup ys)) pc (.tup [.ref tp,ev])) (.ref pc) (eN (ds,e)):=by
          refine .tup af (.cons (.tup (ah.new pcn _ _ af) (rds.same S6 (bE ds))) (.cons ?_ .nil));exact (re.fix B3 X4 (kY e)).same S6 (kY e)
        have F6:Fix b H (upd (upd H4 tp (.tup ys)) pc (.tup [.ref tp,ev])):=((X'.trans (X2.trans X3)).trans X4).trans (Fix.of_same S6);have plH:∀d o,H1 d=some o->d≠b->d≠pl:=λ d o hd nd z=>by rw[z,pn] at hd;cases hd
        exists _,_,_,ps++[(ds,e)],vs++[.ref pc],rfl,af,?_,(by rw[Ht,hl];rfl),?_,?_,?_,?_
        . rw[HA]
          refine bp.app (((hr3.fix B3 X4 (cJ ps)).same S6 (cJ ps)).put hp6 (cJ ps)) ?_;exact hpiece.aM (λ p zs e=>by rw[av (bP e hp6 (by intro z;cases z))];exact e) (jy (ds,e))
        . intro p hpm
          rcases HI.mp hpm with hpm | hpm
          . exact bc p hpm
          . rw[Hm.mp hpm]
            exact⟨⟨by show ds.length<=m;omega,hdk⟩,ek⟩
        . have hll:l≠pl:=λ z=>by
            have:=N1.at_;rw[z,pn] at this;cases this
          have N6:=(N3.fix X4).fix (Fix.of_same (b:=b) S6);exact⟨by rw[av hll];exact N6.at_,N6.ne,N6.ye,N6.bV,N6.ok⟩
        . obtain⟨x,y,e',z⟩:=B4.same S6
          exact⟨x,y,by rw[av hpb.symm];exact e',z⟩
        . intro d o hd nd
          have h1:=X1 d o hd nd;rw[av (plH d o h1 nd)];exact F6 d o hd nd
        . intro d o hd nd
          rw[av (plH d o hd nd)];exact S6 d o (X4 d o ((X2.trans X3) d o (Y' d o hd nd) nd) nd)
    . rintro Hh H' ⟨u1,u2,u3,ps,vs,rfl,hp,hr,hl,bc,N',B',X',Y'⟩
      have hl':ps.length=c:=by rw[hl];omega
      refine⟨_,rfl,pl,_,rfl,.inl ⟨aT.of hp,λ tp tn=>?_⟩⟩;refine q (.ref tp) xs ps _ (.tup af (hr.same (ah.new tn) (cJ ps))) hl' ⟨λ p hpm=>(bc p hpm).1,λ p hpm=>?_⟩ ⟨N'.ok,x4⟩ (B'.new tn) (X'.trans (Fix.new tn));rw[hl'];exact (bc p hpm).2
theorem vT {f:Addr} {fd:FuncData} (F:b4 K "_law_count" "_law_count" kh f fd) (Z:Bl mg) (ac:Own P w K mg base "_law_take" 1 ["bag", "many"] fL):bA P w K mg base bY 2 f fd ["bag", "most"] w6:=by
 refine F.ok (k:=1) vM (λ vs H Q E h=>?_) (λ cdv A outer s H vs Q E hr h=>?_)
 ·obtain⟨b,m,rfl,_⟩:=h;rfl
 ·obtain⟨b,m,rfl,hB,m0,m1,q⟩:=h;exists _,(ar (aF (aH cf (cU (aa (bh cK ao (aw ac (hr.mono ⋯) rfl (aa (pv 0) (aa (pv 1) ae)))) (aa (bh cK ao (aw ac (hr.mono ⋯) rfl (aa (pv 0) (aa (aP (mB rfl) rfl Z.min uN (aa ao (aa (pv 1) ae))) ae)))) (aa (pv 1) ae)))) (aw ac (hr.mono ⋯) rfl (aa (pv 0) (aa ao ae))) (λ _ _=>rfl))));refine⟨_,rfl,_,rfl,b,_,rfl,hB,⟨by omega,dB ⋯ ⋯⟩,λ r H1 r0 r1 B1 X1=>⟨_,_,rfl,rfl,?_⟩⟩;refine⟨_,rfl,_,rfl,_,_,rfl,b,_,rfl,B1,⟨(by split<;>omega),dB (by split<;>omega) (by split<;>omega)⟩,λ r2 H2 r20 r21 B2 X2=>⟨_,_,rfl,rfl,?_⟩⟩;refine⟨_,rfl,sG,λ l0 n0=>?_⟩;refine⟨_,rfl,b,3,rfl,B2.new n0,⟨by decide,by decide⟩,λ z H3 z0 z1 B3 X3=>?_⟩;have h0:H3 l0=some (.lst [.int (1+r),.int (1+r2),.int m]):=X3 l0 _ af (B2.d6 n0);have hr2:r2<4:=by
   have:=r21;split at this<;>omega
  have F3:Fix b H H3:=((X1.trans X2).trans (Fix.new n0)).trans X3;obtain rfl | rfl | rfl:z=0\/z=1\/z=2:=by omega
  ·exists l0,_,0,_,rfl,rfl,aT.of h0,cg;have e:(1+r)=(((1+r).toNat:Nat):Int):=by omega
   rw[e];exact q _ H3 ⋯ ⋯ B3 F3
  ·exists l0,_,1,_,rfl,rfl,aT.of h0,cB;have e:(1+r2)=(((1+r2).toNat:Nat):Int):=by omega
   rw[e];exact q _ H3 ⋯ ⋯ B3 F3
  ·exists l0,_,2,_,rfl,rfl,aT.of h0,at2;exact q _ H3 m0 ⋯ B3 F3
theorem wF {f:Addr} {fd:FuncData} (F:b4 K "_law_part" "_law_part" lT f fd) (Z:Bl mg)  : bA P w K mg base bY 1 f fd ["stretch", "word", "number", "side"] xp:=by
 refine F.ok (k:=0) fi (λ vs H Q E h=>?_) (λ cdv A outer s H vs Q E hr h=>?_)
 ·obtain⟨p,b,n,side,lo,hi,rfl,_⟩:=h;rfl
 ·obtain⟨p,b,n,side,lo,hi,rfl,hp,le,q⟩:=h;refine⟨_,(ai (cA (pv 0) (bX rfl (aJ (ay (i:=4) fi.nd rfl (Hj rfl)) (aJ (ay (i:=5) fi.nd rfl (Hj rfl)) bN))))
   (ai (cY (aS (aB bC (pv 1) bG (aG _))
   (ar (aS (eI (pv 3))
   (ar (aN (i:=5) fi.nd rfl (Hj rfl) (aH cf (cU (aa (pv 5) (aa (bh eM (pv 2) ao) ae))) (bw fU rfl Z.int ju (aa (nF (iN (fw (pv 5))) (fg (dP Cz (pv 5) (pv 2) (aG _)))) ae)) (λ _ _=>rfl))))
   (ar (aN (i:=4) fi.nd rfl (Hj rfl) (aH cf (cU (aa (pv 4) (aa (pv 2) ae))) (bw fU rfl Z.int ju (aa (nF (iN (fw (pv 4))) (fg (dP fP (pv 4) (pv 2) (aG _)))) ae)) (λ _ _=>rfl))))))
   (ar (aS (eI (pv 3))
   (ai (aS (PW.pt (fO (PW.pt (df (cO (cX (pv 4))) (cS (aB fP (pv 2) (pv 4) (aG _))))) (ff (PW.pt (df (cO (cX (pv 5))) (cS (aB iJ (pv 2) (pv 5) (aG _))))))))
   (ar (aF cD))
   aK)
   (ar (aF (aX (aa (pv 2) (aa (pv 2) ae))))))
   (ai (aS (aB bC (pv 4) (pv 2) (aG _))
   (ar (aN (i:=4) fi.nd rfl (Hj rfl) (bh cK (pv 2) ao)))
   aK)
   (ar (aS (aB bC (pv 5) (pv 2) (aG _))
   (ar (aN (i:=5) fi.nd rfl (Hj rfl) (bh eM (pv 2) ao)))
   aK)))))))
   (ai (aS (PW.pt (df (cO (cX (pv 4))) (df (cO (cX (pv 5))) (cS (aB iJ (pv 4) (pv 5) (aG _))))))
   (ar (aF cD))
   aK)
   (ar (aF (aX (aa (pv 4) (aa (pv 5) ae)))))))),?_⟩
  exists _,rfl,p,_,rfl,au.of hp,rfl,_,_,rfl,_,_,rfl,rfl;exists λ σ' H'=>∃lo' hi':Option Int,σ' = [some (.ref p),some (.str (wT b)),some (.int n),some (.bl side),some (vO lo'),some (vO hi')]/\pd lo' hi' = dX (wT b) lo hi n side/\ah H H',?_
  ·exists _,rfl,rfl,_,rfl;cases b with
   | true =>
    have ew:(wT true:Str) = "less" := rfl;refine bJ (show decide (V.str (wT true)=V.str "less")=true by decide) ?_;exists _,rfl,_,rfl;cases side with
    | true =>
     have ep:∀hi',some (iY hi n)=hi'->pd lo hi' = dX (wT true) lo hi n true:=λ hi' e=>by
      rw[<-e,Ae];simp only[dX,ew,if_pos,lj]
     refine bf ?_;refine⟨_,rfl,_,rfl,_,_,rfl,rfl,ln2,λ l hl=>?_⟩;cases hi with
     | none =>
      refine⟨_,rfl,_,rfl,bf (.inr ⟨_,rfl,?_⟩)⟩;exact⟨l,_,_,_,rfl,rfl,aT.of af,cB,lo,some (n-1),rfl,ep _ rfl,ah.new hl⟩
     | some h =>
      refine⟨_,rfl,_,rfl,br ⟨_,rfl,_,rfl,_,_,rfl,rfl,.inr ⟨_,rfl,?_⟩⟩⟩;have key:∀bb:Bool,eY [vO (some h),V.int (n-1)] (if bb=true then 1 else 0)=some (vO (if bb=true then some (n-1) else some h)):=λ bb=>by
       cases bb
       ·exact cg
       ·exact cB
      refine⟨l,_,_,_,rfl,rfl,aT.of af,key _,lo,_,rfl,ep _ ?_,ah.new hl⟩;simp only[iY];by_cases hc:n<=h
      ·rw[if_pos ⋯,if_pos (decide_eq_true hc)]
      ·rw[if_neg ⋯,if_neg (λ z=>hc (of_decide_eq_true z))]
    | false =>
     have ep:∀lo',some (iZ lo n)=lo'->pd lo' hi=dX (wT true) lo hi n false:=λ lo' e=>by
      rw[<-e,BO];simp only[dX,ew,if_pos,lj,IB,if_false]
     refine br ?_;refine⟨_,rfl,_,rfl,ln2,λ l hl=>?_⟩;cases lo with
     | none =>
      refine⟨_,rfl,_,rfl,bf (.inr ⟨_,rfl,?_⟩)⟩;exact⟨l,_,_,_,rfl,rfl,aT.of af,cB,some n,hi,rfl,ep _ rfl,ah.new hl⟩
     | some a =>
      refine⟨_,rfl,_,rfl,br ⟨_,rfl,_,rfl,_,_,rfl,rfl,.inr ⟨_,rfl,?_⟩⟩⟩;have key:∀bb:Bool,eY [vO (some a),V.int n] (if bb=true then 1 else 0)=some (vO (if bb=true then some n else some a)):=λ bb=>by
       cases bb
       ·exact cg
       ·exact cB
      refine⟨l,_,_,_,rfl,rfl,aT.of af,key _,_,hi,rfl,ep _ ?_,ah.new hl⟩;simp only[iZ];by_cases hc:a<n
      ·rw[if_pos ⋯,if_pos (decide_eq_true hc)]
      ·rw[if_neg ⋯,if_neg (λ z=>hc (of_decide_eq_true z))]
   | false =>
    have ew:¬(wT false:Str) = "less" := by decide
    refine aY (show decide (V.str (wT false)=V.str "less")=false by decide) ?_;exists _,rfl,_,rfl;cases side with
    | true =>
     refine bf ?_;have eq_:dX (wT false) lo hi n true=lX lo hi n:=by simp only[dX,if_neg ew,uY,if_true]
     rw[eq_] at q;have yes:cN n lo hi=true->∀t,RV (upd H t (.tup [.int n,.int n])) (.ref t) (lX lo hi n):=λ h t=>by
      unfold lX;rw[if_pos h];exact⟨t,rfl,af⟩
     have no:cN n lo hi=false->RV H .aZ (lX lo hi n):=λ h=>by
      unfold lX;rw[if_neg (by rw[h];decide)];rfl
     have fin:cN n lo hi=true->_:=λ h=>(show Ax (Eo (uq (oR 2) (uq (oR 2) xW))) ⟨λ _ _=>False,Q,λ _ _=>False,λ _ _=>False⟩ [some (.ref p),some (.str (wT false)),some (.int n),some (.bl true),some (vO lo),some (vO hi)] H from ⟨_,rfl,_,rfl,ln2,λ t nt=>q _ _ (yes h t) (ah.new nt)⟩)
     cases lo with
     | none =>
      cases hi with
      | none =>
       refine⟨_,rfl,_,rfl,br ⟨_,rfl,_,rfl,br (br ?_)⟩⟩;exact⟨_,rfl,_,rfl,ln2,λ t nt=>q _ _ (yes rfl t) (ah.new nt)⟩
      | some h =>
       refine⟨_,rfl,_,rfl,br ⟨_,rfl,_,rfl,bf ⟨_,rfl,_,rfl,_,_,rfl,rfl,_,rfl,?_⟩⟩⟩;refine b5 (λ hc=>?_) (λ hc=>?_)
       ·refine q _ _ (no ?_) (ah.refl H);have:h<n:=of_decide_eq_true hc;simp[cN];omega
       ·refine⟨_,rfl,_,rfl,ln2,λ t nt=>q _ _ (yes ?_ t) (ah.new nt)⟩;have:¬h<n:=λ z=>hc (decide_eq_true z)
        simp[cN];omega
     | some a =>
      refine⟨_,rfl,_,rfl,bf ⟨_,rfl,_,rfl,_,_,rfl,rfl,_,rfl,?_⟩⟩;refine b5 (λ hc=>?_) (λ hc=>?_)
      ·refine q _ _ (no ?_) (ah.refl H);have:n<a:=of_decide_eq_true hc;cases hi<;>simp[cN]<;>omega
      ·have hna:¬n<a:=λ z=>hc (decide_eq_true z)
       cases hi with
       | none =>
        refine⟨_,rfl,_,rfl,br (br ?_)⟩;refine⟨_,rfl,_,rfl,ln2,λ t nt=>q _ _ (yes ?_ t) (ah.new nt)⟩;simp[cN];omega
       | some h =>
        refine⟨_,rfl,_,rfl,bf ⟨_,rfl,_,rfl,_,_,rfl,rfl,_,rfl,?_⟩⟩;refine b5 (λ hc=>?_) (λ hc=>?_)
        ·refine q _ _ (no ?_) (ah.refl H);have:h<n:=of_decide_eq_true hc;simp[cN];omega
        ·refine⟨_,rfl,_,rfl,ln2,λ t nt=>q _ _ (yes ?_ t) (ah.new nt)⟩;have:¬h<n:=λ z=>hc (decide_eq_true z)
         simp[cN];omega
    | false =>
     refine br ?_;have ep:pd (if lo=some n then some (n+1) else lo) (if hi=some n then some (n-1) else hi)=dX (wT false) lo hi n false:=by
      rw[DK le];simp only[dX,if_neg ew,uY,IB,if_false]
     exists _,rfl,_,rfl,iS,_,rfl;rw[jV];refine b5 (λ hc=>?_) (λ hc=>?_)
     ·have h1:lo=some n:=of_decide_eq_true hc;rw[if_pos h1] at ep;exists _,rfl,_,_,rfl,rfl;exists _,rfl,_,rfl,iS,_,rfl;rw[jV];refine b5 (λ hd=>?_) (λ hd=>?_)
      ·rw[if_pos (of_decide_eq_true hd)] at ep;exact⟨_,rfl,_,_,rfl,rfl,_,_,rfl,ep,ah.refl H⟩
      ·rw[if_neg (λ z=>hd (decide_eq_true z))] at ep;exact⟨_,_,rfl,ep,ah.refl H⟩
     ·rw[if_neg (λ z=>hc (decide_eq_true z))] at ep;exists _,rfl,_,rfl,iS,_,rfl;rw[jV];refine b5 (λ hd=>?_) (λ hd=>?_)
      ·rw[if_pos (of_decide_eq_true hd)] at ep;exact⟨_,rfl,_,_,rfl,rfl,_,_,rfl,ep,ah.refl H⟩
      ·rw[if_neg (λ z=>hd (decide_eq_true z))] at ep;exact⟨_,_,rfl,ep,ah.refl H⟩
  rintro σ' H1 ⟨lo',hi',rfl,ec,s1⟩;rw[<-ec] at q;cases lo' with
  | none =>
   refine⟨_,rfl,_,rfl,br (br ?_)⟩;exact⟨_,rfl,_,rfl,ln2,λ t nt=>q _ _ (by cases hi'<;>exact⟨t,rfl,af⟩) (s1.trans (ah.new nt))⟩
  | some a =>
   cases hi' with
   | none =>
    refine⟨_,rfl,_,rfl,bf ⟨_,rfl,_,rfl,br (br ?_)⟩⟩;exact⟨_,rfl,_,rfl,ln2,λ t nt=>q _ _ ⟨t,rfl,af⟩ (s1.trans (ah.new nt))⟩
   | some h =>
    refine⟨_,rfl,_,rfl,bf ⟨_,rfl,_,rfl,bf ⟨_,rfl,_,rfl,_,_,rfl,rfl,_,rfl,?_⟩⟩⟩;refine b5 (λ hc=>?_) (λ hc=>?_)
    ·have:h<a:=of_decide_eq_true hc;exact q _ _ (by show RV H1 .aZ (if h<a then none else _);rw[if_pos this];rfl) s1
    ·have:¬h<a:=λ z=>hc (decide_eq_true z)
     exact⟨_,rfl,_,rfl,ln2,λ t nt=>q _ _ (by show RV _ (.ref t) (if h<a then none else _);rw[if_neg this];exact⟨t,rfl,af⟩) (s1.trans (ah.new nt))⟩
theorem wG {f:Addr} {fd:FuncData} (F:b4 K "_law_with" "_law_with" lU f fd) (Z:Bl mg)  : bA P w K mg base bY 1 f fd ["facts", "name", "stretch"] nP:=by
 refine F.ok (k:=0) ki (λ vs H Q E h=>?_) (λ cdv A outer s H vs Q E hr h=>?_)
 ·obtain⟨d,T,m,x,sv,s,rfl,_⟩:=h;rfl
 ·obtain⟨d,T,m,x,sv,s,rfl,lt,hm,sh,q⟩:=h;refine⟨_,(ai (aN (i:=3) ki.nd rfl (Hj rfl) oZ)
   (ai (cY (xk PassesOwn.never rfl (pv 0) (ay (i:=4) ki.nd rfl (Hj rfl))
   (ar (kF (dW hr) (pv 3) (pv 4) (kC (dW hr) (pv 0) (pv 4) (λ _ _=>rfl)) rfl))))
   (ai (cY (eD (uX (pv 3) (pv 1) cD ⟨rfl,rfl,rfl,rfl⟩)))
   (ai (aS (aB (pR hr.units) (pv 2) (aX (aa cD (aa cD ae))) (aG _))
   (ar (kF (dW hr) (pv 3) (pv 1) (pv 2) rfl))
   aK)
   (ar (aF (pv 3))))))),?_⟩
  obtain⟨kvs,ks,hd,tb,cl,hl⟩:=lt;have kl:kvs.length=ks.length:=by have:=congrArg Iz tb.keys;simpa using this
  have ndk:(kvs.map (·.1)).Nodup:=by
   rw[tb.keys];exact IF.map _ (λ a b n z=>n (Sum.inr.inj z)) tb.nd
  refine λ md nmd=>?_
  have ndm:d≠md:=aQ hd nmd;exists λ σ' H'=>∃u:Option V,σ' = [some (.ref d),some (.str x),some sv,some (.ref md),u]/\H' md=some (.dK kvs)/\ah H H',?_
  ·refine⟨_,rfl,d,kvs,rfl,(by rw[av ndm];exact hd),λ ob=>⟨λ j Hi H2=>∃u:Option V,Hi=[some (.ref d),some (.str x),some sv,some (.ref md),u]/\H2 d=some (.eC ob (.dK kvs))/\H2 md=some (.dK (kvs.take j))/\∀c o,H c=some o->c≠d->H2 c=some o,?_,?_,?_,?_⟩⟩
   ·refine⟨none,rfl,af,by rw[av ndm.symm,af];rfl,λ c o e n=>?_⟩;rw[av n,av (aQ e nmd)];exact e
   ·rintro j Hi H2 ⟨u,_,h,_⟩;exact h
   ·rintro j k v Hi H2 hj ⟨u,rfl,h1,h2,h3⟩;have hj':j<kvs.length:=(HD.mp hj).1;refine cb ?_;have dg:dQ H2 d (kV k) (some v):=.inl ⟨kvs,k,.inr ⟨ob,h1⟩,rfl,(u9 ndk (Hy hj)).symm⟩;exists _,rfl,_,rfl,d,v,rfl,dg,_,rfl,_,rfl,md,_,rfl,lh.k (k:=k) h2 (bB (by rw[HP];omega));refine⟨_,rfl,by rw[av ndm];exact h1,by rw[af,z9 ndk hj],λ c o e n=>?_⟩;rw[av (aQ e nmd)];exact h3 c o e n
   ·rintro Hi H2 ⟨u,rfl,h1,h2,h3⟩;refine⟨u,rfl,by rw[av ndm.symm,h2,HW],λ c o e=>?_⟩;by_cases z:c=d
    ·subst z;rw[hd] at e;cases e;exact af
    ·rw[av z];exact h3 c o e z
  rintro σ' H1 ⟨u,rfl,hmd,s1⟩;have tb1:Tb 0 H1 kvs ks T:=tb.aM λ p xs e=>s1 _ _ e
  have sh1:SH H1 sv s:=sh.aM λ p xs e=>s1 _ _ e
  refine⟨λ σ' H2=>∃(kvs2:List (Key×V)) (ks2:List Str),σ' = [some (.ref d),some (.str x),some sv,some (.ref md),u]/\H2 md=some (.dK kvs2)/\Tb 0 H2 kvs2 ks2 (b8 T x cF)/\(∀y∈ks2,b8 T x cF y≠cF)/\ks2.length<=m/\ah H H2,
   ⟨_,rfl,md,rfl,.inl ⟨kvs,.inl hmd⟩,_,rfl,kvs,Sum.inr x,hmd,rfl,λ v ev=>?_,λ ev=>?_⟩,?_⟩
  ·refine⟨_,_,rfl,af,(tb1.drop x).aM (λ p xs e=>by rw[av (bP e hmd (by intro z;cases z))];exact e),λ y hy=>?_,Hu (II _ _) hl,s1.put nmd⟩;obtain⟨h1,h2⟩:=Iu.mp hy;have hne:y≠x:=of_decide_eq_true h2;unfold b8;rw[if_neg hne];exact cl y h1
  ·have hT:T x=cF:=by
    rcases tb.val x with ⟨_,a,_⟩ | ⟨v,a,_⟩
    ·exact a
    ·rw[ev] at a;cases a
   exact⟨kvs,ks,rfl,hmd,by rw[sX hT];exact tb1,by rw[sX hT];exact cl,hl,s1⟩
  rintro σ' H2 ⟨kvs2,ks2,rfl,hm2,tb2,cl2,hl2,s2⟩;have kl2:kvs2.length=ks2.length:=by have:=congrArg Iz tb2.keys;simpa using this
  refine⟨_,rfl,ln2,λ t nt=>?_⟩;have s3:=ah.new (o:=.tup [.aZ,.aZ]) nt;have ht:(upd H2 t (.tup [.aZ,.aZ])) t=some (.tup [.aZ,.aZ]):=af;generalize (upd H2 t (.tup [.aZ,.aZ]))=H3 at s3 ht;have sh3:SH H3 sv s:=sh.aM λ p xs e=>s3 _ _ (s2 _ _ e)
  have tb3:=tb2.aM (H':=H3) λ p xs e=>s3 _ _ e
  have hm3:=s3 _ _ hm2;exists dS s,.tuple [.none,.none],sh3.rd,.tup ht (.cons .aZ (.cons .aZ .nil)),yx s,rfl,(by have:=CS s;omega),_,rfl;by_cases hs:s=cF
  ·refine aY (by rw[rB,decide_eq_true hs];rfl) ?_;subst hs;exact⟨_,rfl,q md H3 ⟨kvs2,ks2,hm3,tb3,cl2,JW hl2⟩ (s2.trans s3)⟩
  ·refine bJ (by rw[rB,decide_eq_false hs];rfl) ?_;exists _,rfl,_,rfl,_,rfl,md,_,rfl,lh.k (k:=Sum.inr x) hm3 (bB ⋯);obtain⟨ks4,tb4,k4,m4⟩:=tb3.put x (.inl sh3);rw[z8] at tb4;refine⟨_,rfl,q md _ ⟨_,ks4,af,tb4.aM (λ p xs e=>by rw[av (bP e hm3 (by intro z;cases z))];exact e),λ y hy=>?_,by omega⟩ ((s2.trans s3).put nmd)⟩;unfold b8;by_cases e:y=x
   ·rw[if_pos e];exact hs
   ·rw[if_neg e];have h1:=cl2 y (((m4 y).mp hy).elim id λ z=>absurd z e);unfold b8 at h1;rw[if_neg e] at h1;exact h1
theorem wH {f:Addr} {fd:FuncData} (F:b4 K "_law_told" "_law_told" lV f fd) (Z:Bl mg)  : bA P w K mg base bY 1 f fd ["facts"] rG:=by
 refine F.ok (k:=0) wq (λ vs H Q E h=>?_) (λ cdv A outer s H vs Q E hr h=>?_)
 ·obtain⟨d,T,rfl,_⟩:=h;rfl
 ·obtain⟨d,T,rfl,lt,q⟩:=h;exists _,(ar (aF (bw bL rfl Z.tuple cL (aa (dA ["name"] ["facts"] [0] rfl (jc (aP (jB rfl) rfl Z.sorted gY (aa (pv 0) ae))) rfl ⋯ ⋯ ⋯ ⟨⟨rfl,.inl rfl,rfl⟩,True.intro⟩ (λ _ _ _ _=>(ay (i:=0) (show ((["name"]:List Str)++(["facts"]:List Str)).Nodup by decide) rfl (Hj rfl) (hf:=Hz rfl))) (λ _ _ _ _=>dG) (λ _ _ _ _=>(aX (aa (pv 0) (aa (kC (dW hr) (pv 1) (pv 0) (λ _ _=>rfl)) ae))))) ae))));obtain⟨kvs,ks,hd,tb,cl,hl⟩:=lt;refine⟨_,rfl,d,kvs,ks,rfl,hd,tb.keys,⋯,λ l ss hp hs hn=>?_⟩;have srt:jE ss:=⟨mQ hs,hp.nodup_iff.mpr tb.nd⟩;have hl1:(upd H l (.lst (ss.map V.str))) l=some (.lst (ss.map V.str)):=af;have s1:ah H (upd H l (.lst (ss.map V.str))):=ah.new hn;have hssl:ss.length<64:=by rw[hp.length_eq];omega
  generalize (upd H l (.lst (ss.map V.str)))=H1 at hl1 s1;refine⟨l,rfl,⟨_,aT.of hl1⟩,λ acc na=>?_⟩;refine ky (K:=K) (a:=l) (xs:=ss.map V.str) (λ i ys Hi H'=>∃c:Option V,Hi=[c,some (.ref d)]/\bp H' ys ((ss.take i).map (dF T))/\H' acc=some (.lst ys)/\ah H1 H') ?_ ?_ ?_ ?_
  ·exact⟨none,rfl,.nil,af,ah.new na⟩
  ·rintro i ys Hi H2 hi ⟨c,rfl,r,ha,s2⟩;exists aT.of (s2 _ _ hl1),ha;have h1:=r.len;rw[Hk,HP] at h1;exact bB ⋯
  ·rintro i x ys Hi H2 hi ⟨c,rfl,r,ha,s2⟩;obtain⟨y,hy,rfl⟩:∃y,ss[i]?=some y/\x=V.str y:=by
    rw[HC] at hi;cases e:ss[i]? with
    | none=>rw[e] at hi;cases hi
    | some k=>rw[e] at hi;exact⟨k,rfl,(HB.inj hi).symm⟩
   have hym:y∈ks:=hp.mem_iff.mp (Hy hy);have tk:ss.take (i+1)=ss.take i++[y]:=by rw[HM,hy];rfl
   obtain⟨v,ev,sv⟩:∃v,cw kvs (Sum.inr y)=some v/\SH H v (T y):=by
    rcases tb.val y with ⟨_,_,c⟩ | ⟨v,a,b,_⟩
    ·exact absurd hym c
    ·rcases b with b | ⟨_,b⟩
     ·exact⟨v,a,b⟩
     ·exact absurd b (cl y hym)
   have hd2:H2 d=some (.dK kvs):=s2 _ _ (s1 _ _ hd);have dg:dQ H2 d (.str y) (some v):=by
    have:=dQ.k (k:=Sum.inr y) hd2;rw[ev] at this;exact this
   refine cb ?_;refine gy ?_;refine bf ?_;refine⟨_,rfl,_,rfl,_,rfl,d,v,rfl,dg,ln2,λ t nt=>?_⟩;have s3:=ah.new (o:=.tup [.str y,v]) nt;have ht:(upd H2 t (.tup [.str y,v])) t=some (.tup [.str y,v]):=af;generalize (upd H2 t (.tup [.str y,v]))=H3 at s3 ht;have sh:SH H3 v (T y):=sv.aM λ p xs e=>s3 _ _ (s2 _ _ (s1 _ _ e))
   have ha3:=s3 _ _ ha;refine⟨ha3,_,rfl,?_,af,(s2.trans s3).put na⟩;rw[tk,HA];refine bp.app ((r.same s3 (h9 T _)).put ha3 (h9 T _)) ?_;refine bg.aM (H:=H3) (λ p zs e=>by rw[av (bP e ha3 (by intro z;cases z))];exact e) (.tup ht (.cons (.str y) (.cons sh.rd .nil))) ?_;have:=h9 T [y];simpa [cT] using this
  ·rintro ys Hi H2 ⟨c,rfl,r,ha,s2⟩;rw[Hk,HW] at r;refine⟨acc,ys,rfl,.inl ⟨aT.of ha,λ t nt=>?_⟩⟩;refine q _ _ ⟨t,ys,ss,rfl,af,srt,λ x=>?_,r.same (ah.new nt) (h9 T _)⟩ ((s1.trans s2).trans (ah.new nt));rw[hp.mem_iff]
   constructor
   ·exact cl x
   ·intro h
    rcases tb.val x with ⟨_,a,_⟩ | ⟨_,_,_,a⟩
    ·exact absurd a h
    ·exact a
theorem uj {f:Addr} {fd:FuncData} (F:b4 K "_law_behind" "_law_behind" jQ f fd) (Z:Bl mg) (am:Own P w K mg base "_law_with" 1 ["facts", "name", "stretch"] nP):bA P w K mg base bY 2 f fd ["facts", "deeds"] xG:=by
 refine F.ok (k:=1) cG (λ vs H Q E h=>?_) (λ cdv A outer s H vs Q E hr h=>?_)
 ·obtain⟨d,p,T,m,ws,ds,pool,rfl,_⟩:=h;rfl
 ·obtain⟨d,p,T,m,ws,ds,pool,rfl,lt,hp,r,hm,hmp,tok,dok,q⟩:=h;refine⟨_,(ai (dJ PassesOwn.never rfl (d5 (pv 1)) (ay (i:=2) cG.nd rfl (Hj rfl))
   (ai (cY (aN (i:=3) cG.nd rfl (Hj rfl) (d9 (dW hr) (pv 0) (aH aL (pv 2) ao (λ _ _=>rfl)) (aX (aa cD (aa cD ae))) ⟨rfl,rfl,rfl,rfl⟩)))
   (ai (aS (aB bC (aH aL (pv 2) ao (λ _ _=>rfl)) bG (aG _))
   (ar (aN (i:=3) cG.nd rfl (Hj rfl) (aX (aa (aH aL (pv 2) ao (λ _ _=>rfl)) (aa (aH aL (pv 2) ao (λ _ _=>rfl)) ae)))))
   aK)
   (ai (aS (aB bC (aH aL (pv 2) ao (λ _ _=>rfl)) bG (aG _))
   (ar (aN (i:=3) cG.nd rfl (Hj rfl) (d9 (dW hr) (pv 0) (aH aL (pv 2) ao (λ _ _=>rfl)) (aX (aa cD (aa cD ae))) ⟨rfl,rfl,rfl,rfl⟩)))
   aK)
   (ai (aS (aB bC (aH aL (pv 2) ao (λ _ _=>rfl)) bG (aG _))
   (ar (aN (i:=3) cG.nd rfl (Hj rfl) (aX (aa cD (aa cD ae)))))
   aK)
   (ai (aS (aB bC (aH aL (pv 2) ao (λ _ _=>rfl)) bG (aG _))
   (ai (cA (pv 3) (bX rfl (aJ (ay (i:=4) cG.nd rfl (Hj rfl)) (aJ (ay (i:=5) cG.nd rfl (Hj rfl)) bN))))
   (ai (cY (aS (cO (cX (pv 4)))
   (ar (aN (i:=4) cG.nd rfl (Hj rfl) (bh cK (pv 4) (aH aL (pv 2) ao (λ _ _=>rfl)))))
   aK))
   (ai (cY (aS (cO (cX (pv 5)))
   (ar (aN (i:=5) cG.nd rfl (Hj rfl) (bh cK (pv 5) (aH aL (pv 2) ao (λ _ _=>rfl)))))
   aK))
   (ar (aN (i:=3) cG.nd rfl (Hj rfl) (aX (aa (pv 4) (aa (pv 5) ae))))))))
   aK)
   (ar (aN (i:=0) cG.nd rfl (Hj rfl) (aw am (hr.mono ⋯) rfl (aa (pv 0) (aa (aH aL (pv 2) ao (λ _ _=>rfl)) (aa (pv 3) ae))))))))))))
   (ar (aF (pv 0)))),?_⟩
  refine⟨_,rfl,p,rfl,⟨_,au.of hp⟩,fM (K:=K) (a:=p) (xs:=ws) (λ i Hh H'=>∃(u0 u1 u2 u3:Option V) (dc:Addr),Hh=[some (.ref dc),some (.ref p),u0,u1,u2,u3]/\LT H' dc (aW T (ds.take i)) m/\ah H H') ?_ ?_ ?_ ?_⟩
  ·exact⟨_,_,_,_,d,rfl,lt,ah.refl H⟩
  ·rintro i Hh H1 hi ⟨u0,u1,u2,u3,dc,rfl,lt1,s1⟩;exact au.of (s1 _ _ hp)
  ·rintro i y Hh H1 hi ⟨u0,u1,u2,u3,dc,rfl,lt1,s1⟩;have hil:i<ds.length:=by
    have:=(HD.mp hi).1;rw[r.len,Hk] at this;exact this
   have hdi:ds[i]?=some ds[i]:=by simp[hil]
   generalize ds[i]=dd at hdi;obtain⟨v,hv,rd⟩:=r.get (i:=i) (d:=bI dd) (by rw[HC,hdi];rfl);rw[hi] at hv;cases hv;have tkb:aW T (ds.take (i+1))=yy (aW T (ds.take i)) dd:=by
    unfold aW;rw[HM,hdi,JV,JQ];rfl
   have tokI:=(tok.pA (λ d hd=>dok d (Jx hd)):cn pool (aW T (ds.take i))).Gb (dok dd (Hy hdi));refine cb ?_;cases dd
   case put x n =>
    obtain⟨dp,rfl,hdp⟩:=ix rd;obtain⟨kvs1,ks1,hd1,tb1,cl1,hl1⟩:=id lt1;exists λ σ' H2=>∃v:V,σ' = [some (.ref dc),some (.ref p),some (.ref dp),some v,u2,u3]/\SH H2 v (aW T (ds.take i) x)/\ah H1 H2,⟨_,rfl,dc,rfl,.inl ⟨kvs1,.inl hd1⟩,_,rfl,dp,_,1,_,rfl,rfl,au.of (s1 _ _ hdp),cB,ln2,λ t nt=>?_⟩
    ·obtain⟨v,ev,sv⟩:=LT.get (tb1.aM λ p xs e=>ah.new (o:=.tup [.aZ,.aZ]) nt _ _ e) cl1 af x;exact⟨_,v,dQ.k (k:=Sum.inr x) (ah.new nt _ _ hd1),ev,v,rfl,sv,ah.new nt⟩
    rintro σ' H2 ⟨v,rfl,sv,s2⟩;have lt2:=lt1.same s2;have hdp2:=s2 _ _ (s1 _ _ hdp);exists _,rfl,dp,_,0,_,rfl,rfl,au.of hdp2,cg,rfl,_,rfl;refine bJ (show decide (V.str "put" = V.str "put")=true by decide) ?_;refine⟨_,rfl,dp,_,2,_,rfl,rfl,au.of hdp2,at2,_,rfl,dp,_,2,_,rfl,rfl,au.of hdp2,at2,ln2,λ t nt=>?_⟩;have s3:=ah.new (o:=.tup [.int n,.int n]) nt;have ht:(upd H2 t (.tup [.int n,.int n])) t=some (.tup [.int n,.int n]):=af;generalize (upd H2 t (.tup [.int n,.int n]))=H3 at s3 ht;have hdp3:=s3 _ _ hdp2;exists _,rfl,dp,_,0,_,rfl,rfl,au.of hdp3,cg,rfl,_,rfl;refine aY (show decide (V.str "put" = V.str "copy")=false by decide) ?_;exists _,rfl,dp,_,0,_,rfl,rfl,au.of hdp3,cg,rfl,_,rfl;refine aY (show decide (V.str "put" = V.str "read")=false by decide) ?_;exists _,rfl,dp,_,0,_,rfl,rfl,au.of hdp3,cg,rfl,_,rfl;refine aY (show decide (V.str "put" = V.str "add")=false by decide) ?_;refine⟨_,rfl,_,rfl,dp,_,1,_,rfl,rfl,au.of hdp3,cB,_,rfl,dc,_,m,x,_,o6 (aW T (ds.take i)) (.put x n),rfl,lt2.same s3,⋯,⟨t,rfl,ht⟩,λ d' H' lt' s'=>?_⟩;refine⟨_,_,_,_,d',rfl,?_,(s1.trans s2).trans (s3.trans s')⟩;rw[tkb];exact lt'.qC (by rw[hmp];exact tokI.bV)
   case copy x y =>
    obtain⟨dp,rfl,hdp⟩:=ix rd;obtain⟨kvs1,ks1,hd1,tb1,cl1,hl1⟩:=id lt1;exists λ σ' H2=>∃v:V,σ' = [some (.ref dc),some (.ref p),some (.ref dp),some v,u2,u3]/\SH H2 v (aW T (ds.take i) x)/\ah H1 H2,⟨_,rfl,dc,rfl,.inl ⟨kvs1,.inl hd1⟩,_,rfl,dp,_,1,_,rfl,rfl,au.of (s1 _ _ hdp),cB,ln2,λ t nt=>?_⟩
    ·obtain⟨v,ev,sv⟩:=LT.get (tb1.aM λ p xs e=>ah.new (o:=.tup [.aZ,.aZ]) nt _ _ e) cl1 af x;exact⟨_,v,dQ.k (k:=Sum.inr x) (ah.new nt _ _ hd1),ev,v,rfl,sv,ah.new nt⟩
    rintro σ' H2 ⟨v,rfl,sv,s2⟩;have lt2:=lt1.same s2;have hdp2:=s2 _ _ (s1 _ _ hdp);exists _,rfl,dp,_,0,_,rfl,rfl,au.of hdp2,cg,rfl,_,rfl;refine aY (show decide (V.str "copy" = V.str "put")=false by decide) ?_;exists _,rfl,dp,_,0,_,rfl,rfl,au.of hdp2,cg,rfl,_,rfl;refine bJ (show decide (V.str "copy" = V.str "copy")=true by decide) ?_;obtain⟨kvs2,ks2,hd2,tb2,cl2,hl2⟩:=id lt2;refine⟨_,rfl,dc,rfl,.inl ⟨kvs2,.inl hd2⟩,_,rfl,dp,_,2,_,rfl,rfl,au.of hdp2,at2,ln2,λ t nt=>?_⟩;obtain⟨v2,ev2,sv2⟩:=LT.get (tb2.aM λ p xs e=>ah.new (o:=.tup [.aZ,.aZ]) nt _ _ e) cl2 af y;exists _,v2,dQ.k (k:=Sum.inr y) (ah.new nt _ _ hd2),ev2;have s3:=ah.new (o:=.tup [.aZ,.aZ]) nt;clear ev2;generalize (upd H2 t (.tup [.aZ,.aZ]))=H3 at s3 sv2;have hdp3:=s3 _ _ hdp2;exists _,rfl,dp,_,0,_,rfl,rfl,au.of hdp3,cg,rfl,_,rfl;refine aY (show decide (V.str "copy" = V.str "read")=false by decide) ?_;exists _,rfl,dp,_,0,_,rfl,rfl,au.of hdp3,cg,rfl,_,rfl;refine aY (show decide (V.str "copy" = V.str "add")=false by decide) ?_;refine⟨_,rfl,_,rfl,dp,_,1,_,rfl,rfl,au.of hdp3,cB,_,rfl,dc,_,m,x,_,o6 (aW T (ds.take i)) (.copy x y),rfl,lt2.same s3,⋯,sv2,λ d' H' lt' s'=>?_⟩;refine⟨_,_,_,_,d',rfl,?_,(s1.trans s2).trans (s3.trans s')⟩;rw[tkb];exact lt'.qC (by rw[hmp];exact tokI.bV)
   case read x =>
    obtain⟨dp,rfl,hdp⟩:=ix rd;obtain⟨kvs1,ks1,hd1,tb1,cl1,hl1⟩:=id lt1;exists λ σ' H2=>∃v:V,σ' = [some (.ref dc),some (.ref p),some (.ref dp),some v,u2,u3]/\SH H2 v (aW T (ds.take i) x)/\ah H1 H2,⟨_,rfl,dc,rfl,.inl ⟨kvs1,.inl hd1⟩,_,rfl,dp,_,1,_,rfl,rfl,au.of (s1 _ _ hdp),cB,ln2,λ t nt=>?_⟩
    ·obtain⟨v,ev,sv⟩:=LT.get (tb1.aM λ p xs e=>ah.new (o:=.tup [.aZ,.aZ]) nt _ _ e) cl1 af x;exact⟨_,v,dQ.k (k:=Sum.inr x) (ah.new nt _ _ hd1),ev,v,rfl,sv,ah.new nt⟩
    rintro σ' H2 ⟨v,rfl,sv,s2⟩;have lt2:=lt1.same s2;have hdp2:=s2 _ _ (s1 _ _ hdp);exists _,rfl,dp,_,0,_,rfl,rfl,au.of hdp2,cg,rfl,_,rfl;refine aY (show decide (V.str "read" = V.str "put")=false by decide) ?_;exists _,rfl,dp,_,0,_,rfl,rfl,au.of hdp2,cg,rfl,_,rfl;refine aY (show decide (V.str "read" = V.str "copy")=false by decide) ?_;exists _,rfl,dp,_,0,_,rfl,rfl,au.of hdp2,cg,rfl,_,rfl;refine bJ (show decide (V.str "read" = V.str "read")=true by decide) ?_;refine⟨ln2,λ t nt=>?_⟩;have s3:=ah.new (o:=.tup [.aZ,.aZ]) nt;have ht:(upd H2 t (.tup [.aZ,.aZ])) t=some (.tup [.aZ,.aZ]):=af;generalize (upd H2 t (.tup [.aZ,.aZ]))=H3 at s3 ht;have hdp3:=s3 _ _ hdp2;exists _,rfl,dp,_,0,_,rfl,rfl,au.of hdp3,cg,rfl,_,rfl;refine aY (show decide (V.str "read" = V.str "add")=false by decide) ?_;refine⟨_,rfl,_,rfl,dp,_,1,_,rfl,rfl,au.of hdp3,cB,_,rfl,dc,_,m,x,_,o6 (aW T (ds.take i)) (.read x),rfl,lt2.same s3,⋯,⟨t,rfl,ht⟩,λ d' H' lt' s'=>?_⟩;refine⟨_,_,_,_,d',rfl,?_,(s1.trans s2).trans (s3.trans s')⟩;rw[tkb];exact lt'.qC (by rw[hmp];exact tokI.bV)
   case add x n =>
    obtain⟨dp,rfl,hdp⟩:=ix rd;obtain⟨kvs1,ks1,hd1,tb1,cl1,hl1⟩:=id lt1;exists λ σ' H2=>∃v:V,σ' = [some (.ref dc),some (.ref p),some (.ref dp),some v,u2,u3]/\SH H2 v (aW T (ds.take i) x)/\ah H1 H2,⟨_,rfl,dc,rfl,.inl ⟨kvs1,.inl hd1⟩,_,rfl,dp,_,1,_,rfl,rfl,au.of (s1 _ _ hdp),cB,ln2,λ t nt=>?_⟩
    ·obtain⟨v,ev,sv⟩:=LT.get (tb1.aM λ p xs e=>ah.new (o:=.tup [.aZ,.aZ]) nt _ _ e) cl1 af x;exact⟨_,v,dQ.k (k:=Sum.inr x) (ah.new nt _ _ hd1),ev,v,rfl,sv,ah.new nt⟩
    rintro σ' H2 ⟨v,rfl,sv,s2⟩;have lt2:=lt1.same s2;have hdp2:=s2 _ _ (s1 _ _ hdp);exists _,rfl,dp,_,0,_,rfl,rfl,au.of hdp2,cg,rfl,_,rfl;refine aY (show decide (V.str "add" = V.str "put")=false by decide) ?_;exists _,rfl,dp,_,0,_,rfl,rfl,au.of hdp2,cg,rfl,_,rfl;refine aY (show decide (V.str "add" = V.str "copy")=false by decide) ?_;exists _,rfl,dp,_,0,_,rfl,rfl,au.of hdp2,cg,rfl,_,rfl;refine aY (show decide (V.str "add" = V.str "read")=false by decide) ?_;exists _,rfl,dp,_,0,_,rfl,rfl,au.of hdp2,cg,rfl,_,rfl;refine bJ (show decide (V.str "add" = V.str "add")=true by decide) ?_;obtain⟨sq,rfl,hsq⟩:=id sv;exists _,rfl,sq,_,rfl,au.of hsq,rfl,_,_,rfl,_,_,rfl,rfl;exists λ σ' H'=>σ' = [some (.ref dc),some (.ref p),some (.ref dp),some (.ref sq),some (vO (jF (aW T (ds.take i) x).1 n)),some (vO (aW T (ds.take i) x).2)]/\H2=H',?_
    ·cases (aW T (ds.take i) x).1 with
     | none=>exact⟨_,rfl,_,rfl,br ⟨rfl,rfl⟩⟩
     | some z=>exact⟨_,rfl,_,rfl,bf ⟨_,rfl,_,rfl,dp,_,2,_,rfl,rfl,au.of hdp2,at2,_,_,rfl,rfl,rfl,rfl⟩⟩
    rintro σ' H' ⟨rfl,rfl⟩;exists λ σ' H'=>σ' = [some (.ref dc),some (.ref p),some (.ref dp),some (.ref sq),some (vO (jF (aW T (ds.take i) x).1 n)),some (vO (jF (aW T (ds.take i) x).2 n))]/\H2=H',?_
    ·cases (aW T (ds.take i) x).2 with
     | none=>exact⟨_,rfl,_,rfl,br ⟨rfl,rfl⟩⟩
     | some z=>exact⟨_,rfl,_,rfl,bf ⟨_,rfl,_,rfl,dp,_,2,_,rfl,rfl,au.of hdp2,at2,_,_,rfl,rfl,rfl,rfl⟩⟩
    rintro σ' H' ⟨rfl,rfl⟩;refine⟨_,rfl,_,rfl,ln2,λ t nt=>?_⟩;have s3:=ah.new (o:=.tup [vO (jF (aW T (ds.take i) x).1 n),vO (jF (aW T (ds.take i) x).2 n)]) nt;have ht:(upd H2 t (.tup [vO (jF (aW T (ds.take i) x).1 n),vO (jF (aW T (ds.take i) x).2 n)])) t=some (.tup [vO (jF (aW T (ds.take i) x).1 n),vO (jF (aW T (ds.take i) x).2 n)]):=af;generalize (upd H2 t (.tup [vO (jF (aW T (ds.take i) x).1 n),vO (jF (aW T (ds.take i) x).2 n)]))=H3 at s3 ht;have hdp3:=s3 _ _ hdp2;refine⟨_,rfl,_,rfl,dp,_,1,_,rfl,rfl,au.of hdp3,cB,_,rfl,dc,_,m,x,_,o6 (aW T (ds.take i)) (.add x n),rfl,lt2.same s3,⋯,⟨t,rfl,ht⟩,λ d' H' lt' s'=>?_⟩;refine⟨_,_,_,_,d',rfl,?_,(s1.trans s2).trans (s3.trans s')⟩;rw[tkb];exact lt'.qC (by rw[hmp];exact tokI.bV)
   case tell x =>
    obtain⟨dp,rfl,hdp⟩:=ix rd;obtain⟨kvs1,ks1,hd1,tb1,cl1,hl1⟩:=id lt1;exists λ σ' H2=>∃v:V,σ' = [some (.ref dc),some (.ref p),some (.ref dp),some v,u2,u3]/\SH H2 v (aW T (ds.take i) x)/\ah H1 H2,⟨_,rfl,dc,rfl,.inl ⟨kvs1,.inl hd1⟩,_,rfl,dp,_,1,_,rfl,rfl,au.of (s1 _ _ hdp),cB,ln2,λ t nt=>?_⟩
    ·obtain⟨v,ev,sv⟩:=LT.get (tb1.aM λ p xs e=>ah.new (o:=.tup [.aZ,.aZ]) nt _ _ e) cl1 af x;exact⟨_,v,dQ.k (k:=Sum.inr x) (ah.new nt _ _ hd1),ev,v,rfl,sv,ah.new nt⟩
    rintro σ' H2 ⟨v,rfl,sv,s2⟩;have lt2:=lt1.same s2;have hdp2:=s2 _ _ (s1 _ _ hdp);exists _,rfl,dp,_,0,_,rfl,rfl,au.of hdp2,cg,rfl,_,rfl;refine aY (show decide (V.str "tell" = V.str "put")=false by decide) ?_;exists _,rfl,dp,_,0,_,rfl,rfl,au.of hdp2,cg,rfl,_,rfl;refine aY (show decide (V.str "tell" = V.str "copy")=false by decide) ?_;exists _,rfl,dp,_,0,_,rfl,rfl,au.of hdp2,cg,rfl,_,rfl;refine aY (show decide (V.str "tell" = V.str "read")=false by decide) ?_;exists _,rfl,dp,_,0,_,rfl,rfl,au.of hdp2,cg,rfl,_,rfl;refine aY (show decide (V.str "tell" = V.str "add")=false by decide) ?_;refine⟨_,rfl,_,rfl,dp,_,1,_,rfl,rfl,au.of hdp2,cB,_,rfl,dc,_,m,x,_,o6 (aW T (ds.take i)) (.tell x),rfl,lt2.same (ah.refl H2),⋯,sv,λ d' H' lt' s'=>?_⟩;refine⟨_,_,_,_,d',rfl,?_,(s1.trans s2).trans ((ah.refl H2).trans s')⟩;rw[tkb];exact lt'.qC (by rw[hmp];exact tokI.bV)
  ·rintro Hh H1 ⟨u0,u1,u2,u3,dc,rfl,lt1,s1⟩;have hwl:ws.length=ds.length:=by rw[r.len,Hk]
   rw[hwl,HW] at lt1;exact⟨_,rfl,q dc H1 lt1 s1⟩
theorem uk {f:Addr} {fd:FuncData} (F:b4 K "_law_covers" "_law_covers" jR f fd) (Z:Bl mg)  : bA P w K mg base bY 1 f fd ["one", "other"] tQ:=by
 refine F.ok (k:=0) fe (λ vs H Q E h=>?_) (λ cdv A outer s H vs Q E hr h=>?_)
 ·obtain⟨d,e,T,U,m,rfl,_⟩:=h;rfl
 ·obtain⟨d,e,T,U,m,rfl,lt,lu,q⟩:=h;refine⟨_,(ai (cY (xk PassesOwn.never rfl (pv 0) (ay (i:=2) fe.nd rfl (Hj rfl))
   (ai (cA (kC (dW hr) (pv 0) (pv 2) (λ _ _=>rfl)) (bX rfl (aJ (ay (i:=3) fe.nd rfl (Hj rfl)) (aJ (ay (i:=4) fe.nd rfl (Hj rfl)) bN))))
   (ai (cA (d9 (dW hr) (pv 1) (pv 2) (aX (aa cD (aa cD ae))) ⟨rfl,rfl,rfl,rfl⟩) (bX rfl (aJ (ay (i:=5) fe.nd rfl (Hj rfl)) (aJ (ay (i:=6) fe.nd rfl (Hj rfl)) bN))))
   (ai (aS (PW.pt (df (cO (cX (pv 3))) (cS (PW.pt (fO (cO (fw (pv 5))) (ff (aB fP (pv 5) (pv 3) (aG _))))))))
   (ar (aF cM))
   aK)
   (ar (aS (PW.pt (df (cO (cX (pv 4))) (cS (PW.pt (fO (cO (fw (pv 6))) (ff (aB iJ (pv 6) (pv 4) (aG _))))))))
   (ar (aF cM))
   aK)))))))
   (ar (aF cM))),?_⟩
  obtain⟨kvs,ks,hd,tb,cl,hl⟩:=lt;obtain⟨kvu,ku,he,tu,cu,hu⟩:=lu;have ndk:(kvs.map (·.1)).Nodup:=by
   rw[tb.keys];exact IF.map _ (λ a b n z=>n (Sum.inr.inj z)) tb.nd
  exists λ σ' H'=>(∀x∈ks,jH (U x) (T x)=true)/\ah H H',?_
  ·refine⟨_,rfl,d,kvs,rfl,hd,λ ob=>⟨λ j Hi H2=>∃u0 u1 u2 u3 u4:Option V,Hi=[some (.ref d),some (.ref e),u0,u1,u2,u3,u4]/\H2 d=some (.eC ob (.dK kvs))/\(∀c o,H c=some o->c≠d->H2 c=some o)/\(∀x∈ks.take j,jH (U x) (T x)=true),?_,?_,?_,?_⟩⟩
   ·exact⟨_,_,_,_,_,rfl,af,(λ c o e n=>by rw[av n];exact e),(λ x hx=>by simp at hx)⟩
   ·rintro j Hi H2 ⟨u0,u1,u2,u3,u4,_,h,_⟩;exact h
   ·rintro j k v Hi H2 hj ⟨u0,u1,u2,u3,u4,rfl,h1,h2,h3⟩;obtain⟨x,hx,rfl⟩:∃x,ks[j]?=some x/\k=Sum.inr x:=by
     have e1:(kvs.map (·.1))[j]?=some k:=by rw[HC,hj];rfl
     rw[tb.keys,HC] at e1;cases e2:ks[j]? with
     | none=>rw[e2] at e1;cases e1
     | some y=>rw[e2] at e1;exact⟨y,rfl,(HB.inj e1).symm⟩
    have hxm:x∈ks:=Hy hx;have hvv:=u9 ndk (Hy hj);obtain⟨q2,rfl,hq2⟩:SH H v (T x):=by
     rcases tb.val x with ⟨a,_,_⟩ | ⟨w,a,b,c⟩
     ·rw[hvv] at a;cases a
     ·rw[hvv] at a;cases a
      rcases b with b | ⟨_,b⟩
      ·exact b
      ·exact absurd b (cl x c)
    have q2d:q2≠d:=bP hq2 hd (by intro z;cases z);have hq22:=h2 _ _ hq2 q2d;have he2:H2 e=some (.dK kvu)\/∃ob,H2 e=some (.eC ob (.dK kvu)):=by
     by_cases z:e=d
     ·subst z;rw[hd] at he;cases he;exact .inr ⟨ob,h1⟩
     ·exact .inl (h2 _ _ he z)
    have ktu:∀p zs,H p=some (.tup zs)->H2 p=some (.tup zs):=λ p zs e=>h2 p _ e (bP e hd (by intro z;cases z))
    have dg:dQ H2 d (.str x) (some (.ref q2)):=.inl ⟨kvs,Sum.inr x,.inr ⟨ob,h1⟩,rfl,hvv.symm⟩;generalize eT:T x=tt at hq2 hq22;obtain⟨lo,hi⟩:=tt;refine cb ?_;exists _,rfl,_,rfl,d,_,rfl,dg,q2,_,rfl,au.of hq22,rfl,_,_,rfl,_,_,rfl,rfl;refine⟨_,rfl,e,rfl,.inl ⟨kvu,he2⟩,_,rfl,ln2,λ t nt=>?_⟩;have s3:=ah.new (o:=.tup [.aZ,.aZ]) nt;obtain⟨w,ew,q3,rfl,hq3⟩:=LT.get ((tu.aM ktu).aM λ p zs e=>s3 _ _ e) cu af x;generalize eU:U x=uu at hq3;obtain⟨lo2,hi2⟩:=uu;exists _,_,.inl ⟨kvu,Sum.inr x,he2.imp (λ h=>s3 _ _ h) (λ ⟨ob,h⟩=>⟨ob,s3 _ _ h⟩),rfl,rfl⟩,ew,q3,_,rfl,au.of hq3,rfl,_,_,rfl,_,_,rfl,rfl;clear ew;have h1':=s3 _ _ h1;have h2':∀c o,H c=some o->c≠d->(upd H2 t (.tup [.aZ,.aZ])) c=some o:=λ c o e n=>s3 _ _ (h2 c o e n)
    clear s3 hq3;generalize (upd H2 t (.tup [.aZ,.aZ]))=H3 at h1' h2' ⊢;have sm:ah H (upd H3 d (.dK kvs)):=λ c o e=>by
     by_cases z:c=d
     ·subst z;rw[hd] at e;cases e;exact af
     ·rw[av z];exact h2' c o e z
    have bad:jH (U x) (T x)=false->Q (.bl false) (upd H3 d (.dK kvs)):=λ h=>q false _ ⟨(λ z=>by cases z),(λ z=>by rw[z x] at h;cases h)⟩ sm
    have tky:∀y∈ks.take (j+1),y∈ks.take j\/y=x:=λ y hy=>by
     rw[HM,hx] at hy
     rcases HI.mp hy with h | h
     ·exact .inl h
     ·exact .inr (by simpa using h)
    cases lo with
    | none =>
     have hlw:fH lo2 none=true:=by cases lo2<;>rfl
     refine⟨_,rfl,_,rfl,br (br ?_)⟩;cases hi with
     | none =>
      have hhw:dI hi2 none=true:=by cases hi2<;>rfl
      exact⟨_,rfl,_,rfl,br (br (by exact⟨_,_,_,_,_,rfl,h1',h2',λ y hy=>(tky y hy).elim (h3 y) λ z=>by rw[z,eT,eU];show (fH lo2 none&&dI hi2 none)=true;rw[hlw,hhw];rfl⟩))⟩
     | some f =>
      cases hi2 with
      | none=>exact⟨_,rfl,_,rfl,bf ⟨_,rfl,_,rfl,bf (bf ⟨ob,h1',bad (by rw[eT,eU];exact Jm _)⟩)⟩⟩
      | some g =>
       refine⟨_,rfl,_,rfl,bf ⟨_,rfl,_,rfl,br ⟨_,rfl,_,rfl,_,_,rfl,rfl,_,rfl,?_⟩⟩⟩;refine b5 (λ hc=>?_) (λ hc=>?_)
       ·have hlt:f<g:=of_decide_eq_true hc;have hhw:dI (some g) (some f)=false:=decide_eq_false ⋯;exact⟨ob,h1',bad (by rw[eT,eU];show (fH lo2 none&&dI (some g) (some f))=false;rw[hhw];exact Jm _)⟩
       ·have hlt:¬f<g:=λ z=>hc (decide_eq_true z)
        have hhw:dI (some g) (some f)=true:=decide_eq_true ⋯;exact⟨_,_,_,_,_,rfl,h1',h2',λ y hy=>(tky y hy).elim (h3 y) λ z=>by rw[z,eT,eU];show (fH lo2 none&&dI (some g) (some f))=true;rw[hlw,hhw];rfl⟩
    | some a =>
     cases lo2 with
     | none=>exact⟨_,rfl,_,rfl,bf ⟨_,rfl,_,rfl,bf (bf ⟨ob,h1',bad (by rw[eT,eU];rfl)⟩)⟩⟩
     | some c =>
      refine⟨_,rfl,_,rfl,bf ⟨_,rfl,_,rfl,br ⟨_,rfl,_,rfl,_,_,rfl,rfl,_,rfl,?_⟩⟩⟩;refine b5 (λ hc=>?_) (λ hc=>?_)
      ·have hlt:c<a:=of_decide_eq_true hc;have hlw:fH (some c) (some a)=false:=decide_eq_false ⋯;exact⟨ob,h1',bad (by rw[eT,eU];show (fH (some c) (some a)&&dI hi2 hi)=false;rw[hlw];rfl)⟩
      ·have hlt:¬c<a:=λ z=>hc (decide_eq_true z)
       have hlw:fH (some c) (some a)=true:=decide_eq_true ⋯;cases hi with
       | none =>
        have hhw:dI hi2 none=true:=by cases hi2<;>rfl
        exact⟨_,rfl,_,rfl,br (br (by exact⟨_,_,_,_,_,rfl,h1',h2',λ y hy=>(tky y hy).elim (h3 y) λ z=>by rw[z,eT,eU];show (fH (some c) (some a)&&dI hi2 none)=true;rw[hlw,hhw];rfl⟩))⟩
       | some f =>
        cases hi2 with
        | none=>exact⟨_,rfl,_,rfl,bf ⟨_,rfl,_,rfl,bf (bf ⟨ob,h1',bad (by rw[eT,eU];exact Jm _)⟩)⟩⟩
        | some g =>
         refine⟨_,rfl,_,rfl,bf ⟨_,rfl,_,rfl,br ⟨_,rfl,_,rfl,_,_,rfl,rfl,_,rfl,?_⟩⟩⟩;refine b5 (λ hc=>?_) (λ hc=>?_)
         ·have hlt:f<g:=of_decide_eq_true hc;have hhw:dI (some g) (some f)=false:=decide_eq_false ⋯;exact⟨ob,h1',bad (by rw[eT,eU];show (fH (some c) (some a)&&dI (some g) (some f))=false;rw[hhw];exact Jm _)⟩
         ·have hlt:¬f<g:=λ z=>hc (decide_eq_true z)
          have hhw:dI (some g) (some f)=true:=decide_eq_true ⋯;exact⟨_,_,_,_,_,rfl,h1',h2',λ y hy=>(tky y hy).elim (h3 y) λ z=>by rw[z,eT,eU];show (fH (some c) (some a)&&dI (some g) (some f))=true;rw[hlw,hhw];rfl⟩
   ·rintro Hi H2 ⟨u0,u1,u2,u3,u4,rfl,h1,h2,h3⟩;have hkl:kvs.length=ks.length:=by have:=congrArg Iz tb.keys;simpa using this
    rw[hkl,HW] at h3;refine⟨h3,λ c o e=>?_⟩;by_cases z:c=d
    ·subst z;rw[hd] at e;cases e;exact af
    ·rw[av z];exact h2 c o e z
  rintro σ' H1 ⟨hall,s1⟩;refine q true H1 ⟨λ _ x=>?_,λ _=>rfl⟩ s1;by_cases hT:T x=cF
  ·rw[hT];exact nQ _
  ·refine hall x ?_
   rcases tb.val x with ⟨_,a,_⟩ | ⟨_,_,_,a⟩
   ·exact absurd a hT
   ·exact a
theorem qP {f:Addr} {fd:FuncData} (F:b4 K "_law_table_of" "_law_table_of" iH f fd) (Z:Bl mg)  : bA P w K mg base bY 1 f fd ["facts"] lG:=by
 refine F.ok (k:=0) fR (λ vs H Q E h=>?_) (λ cdv A outer s H vs Q E hr h=>?_)
 ·obtain⟨fv,T,m,rfl,_⟩:=h;rfl
 ·obtain⟨fv,T,m,rfl,hf,bV,hm,q⟩:=h;refine⟨_,(ai (aN (i:=1) fR.nd rfl (Hj rfl) oZ)
   (ai (dJ PassesOwn.never rfl (d5 (pv 0)) (bX rfl (aJ (ay (i:=2) fR.nd rfl (Hj rfl)) (aJ (ay (i:=3) fR.nd rfl (Hj rfl)) bN)))
   (ar (kF (dW hr) (pv 1) (pv 2) (pv 3) rfl)))
   (ar (aF (pv 1))))),?_⟩
  obtain⟨p,xs,ss,rfl,hp,srt,hss,r⟩:=hf;have hl:=r.len;rw[Hk] at hl;have hsl:ss.length<=m:=bV ss (λ x hx=>(hss x).mp hx) srt.nd;refine λ d nd=>?_
  have s0:=ah.new (o:=.dK []) nd;refine⟨_,rfl,p,rfl,⟨_,au.of (s0 _ _ hp)⟩,fM (K:=K) (a:=p) (xs:=xs) (λ i Hh H'=>∃(kvs:List (Key×V)) (ks:List Str) (u1 u2:Option V),Hh=[some (.ref p),some (.ref d),u1,u2]/\H' d=some (.dK kvs)/\Tb 0 H' kvs ks (pC T (ss.take i))/\(∀x,x∈ks↔x∈ss.take i)/\ks.length<=i/\ah H H') ?_ ?_ ?_ ?_⟩
  ·refine⟨[],[],_,_,rfl,af,⟨rfl,Jd,λ x=>.inl ⟨rfl,?_,by simp⟩⟩,λ x=>by simp,Hn _,s0⟩;unfold pC;rw[if_neg (by simp)]
  ·rintro i Hh H1 hi ⟨kvs,ks,u1,u2,rfl,h1,h2,h3,h4,s1⟩;exact au.of (s1 _ _ hp)
  ·rintro i y Hh H1 hi ⟨kvs,ks,u1,u2,rfl,h1,h2,h3,h4,s1⟩;have hil:i<ss.length:=by have:=(HD.mp hi).1;omega
   have hsi:ss[i]?=some ss[i]:=by simp[hil]
   generalize ss[i]=x at hsi;obtain⟨v,hv,rv⟩:=r.get (i:=i) (d:=dF T x) (by rw[HC,hsi];rfl);rw[hi] at hv;cases hv;obtain⟨qa,qvs,rfl,hqa,rq⟩:=bg.bQ rv;obtain⟨y1,t1,rfl,q1,rq⟩:=rq.cons_inv;obtain⟨y2,t2,rfl,q2,rq⟩:=rq.cons_inv;have z:=rq.nil_inv;subst z;have ey1:=q1.str_inv;subst ey1;exists qa,_,rfl,au.of (s1 _ _ hqa),rfl,_,_,rfl,_,_,rfl,rfl;have kl:kvs.length=ks.length:=by have:=congrArg Iz h2.keys;simpa using this
   obtain⟨sp,rfl,hsp⟩:=vD q2;exists _,rfl,_,rfl,_,rfl,d,_,rfl,lh.k (k:=Sum.inr x) h1 (bB ⋯);obtain⟨ks2,tb2,kl2,km2⟩:=h2.put x (v:=.ref sp) (s:=T x) (.inl ⟨sp,rfl,s1 _ _ hsp⟩);rw[BR] at tb2;have htk:ss.take (i+1)=ss.take i++[x]:=by rw[HM,hsi];rfl
   refine⟨_,ks2,_,_,rfl,af,?_,λ y=>?_,by omega,s1.put nd⟩
   ·rw[htk];exact tb2.aM λ p zs e=>by rw[av (bP e h1 (by intro z;cases z))];exact e
   ·rw[km2,h3,htk,HI,Hm]
  ·rintro Hh H1 ⟨kvs,ks,u1,u2,rfl,h1,h2,h3,h4,s1⟩;rw[hl,HW] at h2 h3;rw[BS hss] at h2;exact⟨_,rfl,q d H1 nd ⟨kvs,ks,h1,h2,λ x hx=>(hss x).mp ((h3 x).mp hx),by omega⟩ s1⟩
theorem mn {f:Addr} {fd:FuncData} (F:b4 K "_law_facts_spoilt" "_law_facts_spoilt" gg f fd) (Z:Bl mg) (bi:Own P w K mg base "_law_table_of" 1 ["facts"] lG) (ac:Own P w K mg base "_law_take" 1 ["bag", "many"] fL) (io:Own P w K mg base "_law_told" 1 ["facts"] rG) (am:Own P w K mg base "_law_with" 1 ["facts", "name", "stretch"] nP):bA P w K mg base bY 4 f fd ["bag", "facts"] tI:=by
  refine F.ok (k:=3) bF (λ vs H Q E h=>?_) (λ cdv A outer s H vs Q E hr h=>?_)
  . obtain⟨b,fv,T,xs,rfl,_⟩:=h
    rfl
  . obtain⟨b,fv,T,xs,rfl,hB,hf,tok,hzz,h50,q⟩:=h
    refine⟨_,(ai (aN (i:=2) bF.nd rfl (Hj rfl) (aw bi (hr.mono ⋯) rfl (aa (pv 1) ae)))
      (ai (aN (i:=3) bF.nd rfl (Hj rfl) (bh EF (aP (jB rfl) rfl Z.sorted gY (aa (pv 2) ae)) (cU (aa bG ae))))
      (ai (aN (i:=4) bF.nd rfl (Hj rfl) (aH cf (pv 3) (aw ac (hr.mono ⋯) rfl (aa (pv 0) (aa (aP aO rfl Z.len bM (aa (pv 3) ae)) ae))) (λ _ _=>rfl)))
      (ai (cA (d9 (dW hr) (pv 2) (pv 4) (aX (aa cD (aa cD ae))) ⟨rfl,rfl,rfl,rfl⟩) (bX rfl (aJ (ay (i:=5) bF.nd rfl (Hj rfl)) (aJ (ay (i:=6) bF.nd rfl (Hj rfl)) bN))))
      (ai (aN (i:=7) bF.nd rfl (Hj rfl) (aw ac (hr.mono ⋯) rfl (aa (pv 0) (aa ao ae))))
      (ai (aS (aB bC (pv 7) ao (aG _))
      (ai (eD (uX (pv 2) (pv 4) cD ⟨rfl,rfl,rfl,rfl⟩))
      (ar (aF (aw io (hr.mono ⋯) rfl (aa (pv 2) ae)))))
      aK)
      (ai (cY (aS (aB bC (pv 7) ao (aG _))
      (ar (aN (i:=5) bF.nd rfl (Hj rfl) cD))
      aK))
      (ai (cY (aS (aB bC (pv 7) ao (aG _))
      (ar (aN (i:=6) bF.nd rfl (Hj rfl) cD))
      aK))
      (ai (cY (aS (PW.pt (df (aB bC (pv 7) ao (aG _)) (cS (cO (cX (pv 5))))))
      (ar (aN (i:=5) bF.nd rfl (Hj rfl) (bh eM (pv 5) ao)))
      aK))
      (ai (cY (aS (PW.pt (df (aB bC (pv 7) ao (aG _)) (cS (cO (cX (pv 6))))))
      (ar (aN (i:=6) bF.nd rfl (Hj rfl) (bh cK (pv 6) ao)))
      aK))
      (ai (cY (aS (aB bC (pv 7) ao (aG _))
      (ar (yX (i:=5) (j:=6) rfl bF.nd rfl rfl ⋯ rfl rfl (aa ao (aa (bh cK ao (aw ac (hr.mono ⋯) rfl (aa (pv 0) (aa ao ae)))) ae)) rfl))
      aK))
      (ai (cY (aS (aB bC (pv 7) ao (aG _))
      (ar (cA (aH cf (cU (aa (aX (aa ao (aa (bh cK ao (aw ac (hr.mono ⋯) rfl (aa (pv 0) (aa ao ae)))) ae))) (aa (aX (aa (xO uI ao) (aa (xO uI ao) ae))) ae))) (aw ac (hr.mono ⋯) rfl (aa (pv 0) (aa ao ae))) (λ _ _=>rfl)) (bX rfl (aJ (ay (i:=5) bF.nd rfl (Hj rfl)) (aJ (ay (i:=6) bF.nd rfl (Hj rfl)) bN)))))
      aK))
      (ar (aF (aw io (hr.mono ⋯) rfl (aa (aw am (hr.mono ⋯) rfl (aa (pv 2) (aa (pv 4) (aa (aX (aa (pv 5) (aa (pv 6) ae))) ae)))) ae)))))))))))))))),?_⟩
    refine⟨_,rfl,fv,T,xs.length,rfl,hf,tok.bV,⋯,λ d H1 nd lt1 s1=>?_⟩;have hf1:=hf.same s1;have B1:=hB.same s1;obtain⟨kvs,ks,hd,tb,cl,hl⟩:=lt1;have lt1:LT H1 d T xs.length:=⟨kvs,ks,hd,tb,cl,hl⟩;refine⟨_,rfl,d,kvs,ks,rfl,hd,tb.keys,⋯,λ l1 ss hperm hsort nl1=>?_⟩;have s2:=ah.new (o:=.lst (ss.map V.str)) nl1;have hl1:(upd H1 l1 (.lst (ss.map V.str))) l1=some (.lst (ss.map V.str)):=af;generalize (upd H1 l1 (.lst (ss.map V.str)))=H2 at s2 hl1;have hsl:=hperm.length_eq;refine⟨og,λ l2 n2=>⟨l1,l2,_,_,rfl,rfl,ah.new n2 _ _ hl1,af,(by rw[Hk];exact HZ (bB (by show _+1<=1000;omega))),λ l3 n3=>?_⟩⟩;have hl3:(upd (upd H2 l2 (.lst [.str "zz"])) l3 (.lst (ss.map V.str++[.str "zz"]))) l3=some (.lst ((ss++[("zz" : Str)]).map V.str)):=by rw[af,HA];rfl
    have s3:=(ah.new (o:=.lst [.str "zz"]) n2).trans (ah.new (o:=.lst (ss.map V.str++[.str "zz"])) n3);generalize (upd (upd H2 l2 (.lst [.str "zz"])) l3 (.lst (ss.map V.str++[.str "zz"])))=H3 at s3 hl3;have s03:=s1.trans (s2.trans s3);have s13:=s2.trans s3;have B3:=B1.same s13;have el:(((ss++[("zz" : Str)]).map V.str).length:Int)=ss.length+1:=by simp
    refine⟨_,rfl,_,rfl,_,rfl,l3,_,rfl,.inl (aT.of hl3),b,_,rfl,B3,⟨by omega,dB ⋯ ⋯⟩,λ r H4 r0 r1 B4 X4=>?_⟩;have nl3:l3≠b:=by
      obtain⟨x,y',e,_⟩:=B3;rintro rfl;rw[hl3] at e;cases ss<;>simp at e
    obtain⟨x,hx,hxm⟩:=kZ (xs:=ss++[("zz" : Str)]) r0 r1;exists l3,_,r,_,rfl,rfl,aT.of (X4 _ _ hl3 nl3),hx;have hxp:x∈xs:=by
      rcases HI.mp hxm with h | h
      . exact tok.sup x (cl x (hperm.mem_iff.mp h))
      . rw[Hm.mp h];exact hzz
    have lt4:=(lt1.same s13).fix B3 X4;have F4:Fix b H H4:=(Fix.of_same s03).trans X4;obtain⟨kvs,ks,hd,tb,cl,hl⟩:=lt4;have lt4:LT H4 d T xs.length:=⟨kvs,ks,hd,tb,cl,hl⟩;refine⟨_,rfl,d,rfl,.inl ⟨kvs,.inl hd⟩,_,rfl,ln2,λ t0 n0=>?_⟩;have s5:=ah.new (o:=.tup [.aZ,.aZ]) n0;have ht0:(upd H4 t0 (.tup [.aZ,.aZ])) t0=some (.tup [.aZ,.aZ]):=af;generalize (upd H4 t0 (.tup [.aZ,.aZ]))=H5 at s5 ht0;obtain⟨v,ev,qv,rfl,hqv⟩:=LT.get (tb.aM λ p zs e=>s5 _ _ e) cl ht0 x;exists _,_,dQ.k (k:=Sum.inr x) (s5 _ _ hd),ev,qv,_,rfl,au.of hqv,rfl,_,_,rfl,_,_,rfl,rfl;have lt5:=lt4.same s5;have B5:=B4.same s5;have F5:=F4.trans (Fix.of_same s5);have hle:=tok.le x;generalize T x=s0 at hqv hle;refine⟨_,rfl,b,7,rfl,B5,⟨by decide,by decide⟩,λ way H6 w0 w1 B6 X6=>?_⟩;have lt6:=lt5.fix B5 X6;have F6:=F5.trans X6;have ndb:d≠b:=lt6.E9 B6;clear hqv ht0 s5 n0;exists _,rfl,rfl,_,rfl;refine b5 (λ hc=>?_) (λ hc=>?_)
    . obtain⟨kvs,ks,hd,tb,cl,hl⟩:=lt6
      have cl2:∀(T':Str->Sx) (H7:Hp),cn xs T'->LT H7 d T' xs.length->cy H7 b->Fix b H H7->Ax (xX rG [] E0 (uq (oR 2) xW)) { nx:=λ x H'=>Q V.aZ H',rt:=Q } [some (.ref b),some fv,some (.ref d),some (.ref l3),some (.str x),some (vO s0.1),some (vO s0.2),some (.int way)] H7:=λ T' H7 a1 a2 a3 a4=>by
        refine⟨_,rfl,d,T',rfl,a2.up ⋯,λ v H8 f8 s8=>?_⟩;exact q v T' H8 f8 a1 (a3.same s8) (a4.trans (Fix.of_same s8))
      refine⟨_,rfl,d,rfl,.inl ⟨kvs,.inl hd⟩,_,rfl,kvs,Sum.inr x,hd,rfl,λ v ev=>?_,λ ev=>?_⟩
      . have F7:Fix b H (upd H6 d (.dK (fk kvs (Sum.inr x)))):=λ c o e ne=>by
          rw[av (aQ e nd)];exact F6 c o e ne
        refine cl2 (b8 T x cF) _ (tok.set hxp True.intro) ⟨_,_,af,(tb.drop x).aM (λ p zs e=>by rw[av (bP e hd (by intro z;cases z))];exact e),λ y hy=>?_,Hu (II _ _) hl⟩ (B6.put ndb.symm) F7;obtain⟨h1,h2⟩:=Iu.mp hy;have hne:y≠x:=of_decide_eq_true h2;unfold b8;rw[if_neg hne];exact cl y h1
      . exact cl2 T H6 tok ⟨kvs,ks,hd,tb,cl,hl⟩ B6 F6
    exists λ σ' H'=>∃s:Sx,σ' = [some (.ref b),some fv,some (.ref d),some (.ref l3),some (.str x),some (vO s.1),some (vO s.2),some (.int way)]/\iR s.1 s.2/\LT H' d T xs.length/\cy H' b/\Fix b H H',?_
    . exists _,rfl,rfl,_,rfl
      refine b5 (λ hc=>?_) (λ hc=>?_)
      . exact⟨(none,s0.2),rfl,True.intro,lt6,B6,F6⟩
      . exact⟨s0,rfl,hle,lt6,B6,F6⟩
    rintro σ' H7 ⟨s,rfl,le7,lt7,B7,F7⟩;exists λ σ' H'=>∃s:Sx,σ' = [some (.ref b),some fv,some (.ref d),some (.ref l3),some (.str x),some (vO s.1),some (vO s.2),some (.int way)]/\iR s.1 s.2/\LT H' d T xs.length/\cy H' b/\Fix b H H',?_
    . exists _,rfl,rfl,_,rfl
      refine b5 (λ hc=>?_) (λ hc=>?_)
      . exact⟨(s.1,none),rfl,(by show iR s.1 none;cases s.1<;>exact True.intro),lt7,B7,F7⟩
      . exact⟨s,rfl,le7,lt7,B7,F7⟩
    rintro σ' H7 ⟨s,rfl,le7,lt7,B7,F7⟩;exists λ σ' H'=>∃s:Sx,σ' = [some (.ref b),some fv,some (.ref d),some (.ref l3),some (.str x),some (vO s.1),some (vO s.2),some (.int way)]/\iR s.1 s.2/\LT H' d T xs.length/\cy H' b/\Fix b H H',?_
    . exists _,rfl,rfl,_,rfl
      refine b5 (λ hc=>?_) (λ hc=>?_)
      . obtain⟨lo,hi⟩:=s
        exists _,rfl,_,rfl;cases lo with
        | none=>exact aY rfl ⟨(none,hi),rfl,le7,lt7,B7,F7⟩
        | some a =>
          refine bJ rfl ?_;exists _,rfl,_,_,rfl,rfl;refine⟨(some (a-1),hi),rfl,?_,lt7,B7,F7⟩;cases hi with
          | none=>exact True.intro
          | some c=>have le7:a<=c:=le7;show a-1<=c;omega
      . exact br ⟨s,rfl,le7,lt7,B7,F7⟩
    rintro σ' H7 ⟨s,rfl,le7,lt7,B7,F7⟩;exists λ σ' H'=>∃s:Sx,σ' = [some (.ref b),some fv,some (.ref d),some (.ref l3),some (.str x),some (vO s.1),some (vO s.2),some (.int way)]/\iR s.1 s.2/\LT H' d T xs.length/\cy H' b/\Fix b H H',?_
    . exists _,rfl,rfl,_,rfl
      refine b5 (λ hc=>?_) (λ hc=>?_)
      . obtain⟨lo,hi⟩:=s
        exists _,rfl,_,rfl;cases hi with
        | none=>exact aY rfl ⟨(lo,none),rfl,le7,lt7,B7,F7⟩
        | some a =>
          refine bJ rfl ?_;exists _,rfl,_,_,rfl,rfl;refine⟨(lo,some (a+1)),rfl,?_,lt7,B7,F7⟩;cases lo with
          | none=>exact True.intro
          | some c=>have le7:c<=a:=le7;show c<=a+1;omega
      . exact br ⟨s,rfl,le7,lt7,B7,F7⟩
    rintro σ' H7 ⟨s,rfl,le7,lt7,B7,F7⟩;exists λ σ' H'=>∃s:Sx,σ' = [some (.ref b),some fv,some (.ref d),some (.ref l3),some (.str x),some (vO s.1),some (vO s.2),some (.int way)]/\iR s.1 s.2/\LT H' d T xs.length/\cy H' b/\Fix b H H',?_
    . exists _,rfl,rfl,_,rfl
      refine b5 (λ hc=>?_) (λ hc=>?_)
      . refine⟨_,rfl,b,3,rfl,B7,⟨by decide,by decide⟩,λ r H8 r0 r1 B8 X8=>⟨_,_,rfl,rfl,?_⟩⟩
        refine⟨_,_,rfl,(some 0,some (1+r)),rfl,(show (0:Int)<=1+r by omega),lt7.fix B7 X8,B8,F7.trans X8⟩
      . exact⟨s,rfl,le7,lt7,B7,F7⟩
    rintro σ' H7 ⟨s,rfl,le7,lt7,B7,F7⟩;exists λ σ' H'=>∃s:Sx,σ' = [some (.ref b),some fv,some (.ref d),some (.ref l3),some (.str x),some (vO s.1),some (vO s.2),some (.int way)]/\iR s.1 s.2/\LT H' d T xs.length/\cy H' b/\Fix b H H',?_
    . exists _,rfl,rfl,_,rfl
      refine b5 (λ hc=>?_) (λ hc=>?_)
      . refine⟨_,rfl,b,3,rfl,B7,⟨by decide,by decide⟩,λ r H8 r0 r1 B8 X8=>⟨_,_,rfl,rfl,ln2,λ t1 n1=>?_⟩⟩
        refine⟨3,rfl,1,rfl,ln2,λ t2 n2=>⟨ln2,λ l4 n4=>?_⟩⟩;have q1:=ah.new (o:=.tup [.int 1,.int (1+r)]) n1;have q2:=ah.new (o:=.tup [.int (-3),.int (-1)]) n2;have q3:=ah.new (o:=.lst [.ref t1,.ref t2]) n4;have ht1:=q3 _ _ (q2 _ _ (show (upd H8 t1 (.tup [.int 1,.int (1+r)])) t1=_ from af));have ht2:=q3 _ _ (show (upd (upd H8 t1 (.tup [.int 1,.int (1+r)])) t2 (.tup [.int (-3),.int (-1)])) t2=_ from af);have hl4:(upd (upd (upd H8 t1 (.tup [.int 1,.int (1+r)])) t2 (.tup [.int (-3),.int (-1)])) l4 (.lst [.ref t1,.ref t2])) l4=some (.lst [.ref t1,.ref t2]):=af;have q13:=(q1.trans q2).trans q3;generalize (upd (upd (upd H8 t1 (.tup [.int 1,.int (1+r)])) t2 (.tup [.int (-3),.int (-1)])) l4 (.lst [.ref t1,.ref t2]))=H9 at ht1 ht2 hl4 q13;have B9:=B8.same q13;have lt9:=(lt7.fix B7 X8).same q13;have F9:=(F7.trans X8).trans (Fix.of_same q13);refine⟨_,rfl,b,2,rfl,B9,⟨by decide,by decide⟩,λ r2 H10 r20 r21 B10 X10=>?_⟩;have nl4:l4≠b:=by
          obtain⟨x',y',e,_⟩:=B9;rintro rfl;rw[hl4] at e;simp at e
        have hl10:=X10 _ _ hl4 nl4;have lt10:=lt9.fix B9 X10;have F10:=F9.trans X10;obtain rfl | rfl:r2=0\/r2=1:=by omega
        . exists l4,_,0,_,rfl,rfl,aT.of hl10,cg,t1,_,rfl,au.of (X10 _ _ ht1 (B9.bK ht1)),rfl,_,_,rfl,_,_,rfl,rfl
          exact⟨(some 1,some (1+r)),rfl,(show (1:Int)<=1+r by omega),lt10,B10,F10⟩
        . exists l4,_,1,_,rfl,rfl,aT.of hl10,cB,t2,_,rfl,au.of (X10 _ _ ht2 (B9.bK ht2)),rfl,_,_,rfl,_,_,rfl,rfl
          exact⟨(some (-3),some (-1)),rfl,(show (-3:Int) <= -1 by decide),lt10,B10,F10⟩
      . exact⟨s,rfl,le7,lt7,B7,F7⟩
    rintro σ' H7 ⟨s,rfl,le7,lt7,B7,F7⟩;refine⟨_,rfl,_,rfl,_,rfl,_,rfl,ln2,λ t1 n1=>?_⟩;have s8:=ah.new (o:=.tup [vO s.1,vO s.2]) n1;refine⟨d,T,xs.length,x,.ref t1,s,rfl,lt7.same s8,⋯,⟨t1,rfl,af⟩,λ d2 H9 lt9 s9=>?_⟩;have s79:=s8.trans s9;refine⟨d2,_,rfl,lt9.up ⋯,λ v H10 f10 s10=>?_⟩;have s710:=s79.trans s10;exact q v _ H10 f10 (tok.set hxp le7) (B7.same s710) (F7.trans (Fix.of_same s710))
theorem nY {f:Addr} {fd:FuncData} (F:b4 K "_law_end_spoilt" "_law_end_spoilt" gR f fd) (Z:Bl mg) (ac:Own P w K mg base "_law_take" 1 ["bag", "many"] fL):bA P w K mg base bY 3 f fd ["bag", "end", "count"] tM:=by
  refine F.ok (k:=2) gB (λ vs H Q E h=>?_) (λ cdv A outer s H vs Q E hr h=>?_)
  . obtain⟨b,ea,e,c,rfl,_⟩:=h
    rfl
  . obtain⟨b,ea,e,c,rfl,hB,he,hlay,hw,hc0,hc,q⟩:=h
    refine⟨_,(ai (aN (i:=3) gB.nd rfl (Hj rfl) (aw ac (hr.mono ⋯) rfl (aa (pv 0) (aa ao ae))))
      (ai (aS (aB bC (pv 3) ao (aG _))
      (ar (aF (aH cf (cU (aa (aX (aa bG ae)) (aa (aX (aa bG (aa (aw ac (hr.mono ⋯) rfl (aa (pv 0) (aa (pv 2) ae))) ae))) ae))) (aw ac (hr.mono ⋯) rfl (aa (pv 0) (aa ao ae))) (λ _ _=>rfl))))
      aK)
      (ai (aS (PW.pt (df (aB bC (pv 3) ao (aG _)) (cS (aB bC (aP aO rfl Z.len bM (aa (pv 1) ae)) ao (aG _)))))
      (ar (aF (aX (aa bG (aa (aH aL (pv 1) (bh cK ao (aw ac (hr.mono ⋯) rfl (aa (pv 0) (aa ao ae)))) (λ _ _=>rfl)) ae)))))
      aK)
      (ai (aS (PW.pt (df (aB bC (pv 3) ao (aG _)) (cS (aB bC (aP aO rfl Z.len bM (aa (pv 1) ae)) ao (aG _)))))
      (ar (aF (aX (aa (aH aL (pv 1) ao (λ _ _=>rfl)) (aa (aH aL (pv 1) ao (λ _ _=>rfl)) (aa (bh eM (bh cK (aH aL (pv 1) ao (λ _ _=>rfl)) ao) (bh iP ao (aw ac (hr.mono ⋯) rfl (aa (pv 0) (aa ao ae))))) (aa (aH aL (pv 1) ao (λ _ _=>rfl)) (aa (aH aL (pv 1) ao (λ _ _=>rfl)) ae))))))))
      aK)
      (ai (aS (PW.pt (df (aB bC (pv 3) ao (aG _)) (cS (aB bC (aP aO rfl Z.len bM (aa (pv 1) ae)) ao (aG _)))))
      (ar (aF (aX (aa bG (aa bG (aa ao (aa (aH aL (pv 1) ao (λ _ _=>rfl)) (aa (aw ac (hr.mono ⋯) rfl (aa (pv 0) (aa (pv 2) ae))) ae))))))))
      aK)
      (ai (aS (aB bC (aP aO rfl Z.len bM (aa (pv 1) ae)) ao (aG _))
      (ar (aF (aX (aa bG (aa (aw ac (hr.mono ⋯) rfl (aa (pv 0) (aa (pv 2) ae))) ae)))))
      aK)
      (ai (aN (i:=4) gB.nd rfl (Hj rfl) (bh eM (bh eM (aP aO rfl Z.len bM (aa (pv 1) ae)) ao) (aw ac (hr.mono ⋯) rfl (aa (pv 0) (aa (bh cK ao (bw fU rfl Z.int ju (aa (dP bC (aP aO rfl Z.len bM (aa (pv 1) ae)) ao (aG _)) ae))) ae)))))
      (ar (aF (bh kG (bh kG (fV gX (pv 1) gU (gW (pv 4))) (aX (aa (aw ac (hr.mono ⋯) rfl (aa (pv 0) (aa (pv 2) ae))) ae))) (fV gX (pv 1) (gW (bh cK (pv 4) ao)) gU))))))))))),?_⟩
    refine⟨_,rfl,b,5,rfl,hB,⟨by decide,by decide⟩,λ way H1 w0 w1 B1 X1=>?_⟩;have he1:=X1 _ _ he (hB.bK he);exists _,rfl,rfl,_,rfl;refine b5 (λ hc'=>?_) (λ hc'=>?_)
    . refine⟨og,λ t1 n1=>?_⟩
      refine⟨_,rfl,_,rfl,b,c,rfl,B1.new n1,⟨by omega,dB ⋯ ⋯⟩,λ r H2 r0 r1 B2 X2=>⟨ln2,λ t2 n2=>⟨ln2,λ l nl=>?_⟩⟩⟩;have F2:Fix b H1 H2:=(Fix.new n1).trans X2;have ht1:=X2 _ _ (af (H:=H1) (a:=t1) (o:=.tup [.str "stop"])) (B1.d6 n1);have q2:=ah.new (o:=.tup [.str "go",.int r]) n2;have q3:=ah.new (o:=.lst [.ref t1,.ref t2]) nl;refine⟨_,rfl,b,2,rfl,(B2.new n2).new nl,⟨by decide,by decide⟩,λ z H3 z0 z1 B3 X3=>?_⟩;have F3:Fix b H H3:=(X1.trans F2).trans ((Fix.of_same (q2.trans q3)).trans X3);have B2':=(B2.new (o:=.tup [.str "go",.int r]) n2).new (o:=.lst [.ref t1,.ref t2]) nl;have hl:=X3 l _ af ((B2.new (o:=.tup [.str "go",.int r]) n2).d6 nl);have h1:=X3 _ _ (q3 _ _ (q2 _ _ ht1)) (B2'.bK (q3 _ _ (q2 _ _ ht1)));have h2:=X3 _ _ (q3 _ _ af) (B2'.bK (q3 _ _ af));obtain⟨k,rfl⟩:∃k:Nat,r=k:=⟨r.toNat,by omega⟩;obtain rfl | rfl:z=0\/z=1:=by omega
      . exists l,_,_,_,rfl,rfl,aT.of hl,cg
        exact q t1 .stop H3 h1 B0 (λ k hk=>nomatch hk) B3 F3
      . exists l,_,_,_,rfl,rfl,aT.of hl,cB
        exact q t2 (.go k) H3 h2 (m9 k) (λ j hj=>by rw[Hm.mp hj];omega) B3 F3
    exists _,rfl,rfl,_,rfl;refine kN ?_ (λ rest hc'=>?_);rotate_left
    . exists _,rfl,ea,_,rfl,.inr (au.of he1),rfl,_,rfl
      refine b5 (λ hd=>?_) (λ hd=>rest);cases e with
      | stop=>exact absurd (of_decide_eq_true hd) (by show ¬V.int 1=V.int 5;decide)
      | go p=>exact absurd (of_decide_eq_true hd) (by show ¬V.int 2=V.int 5;decide)
      | aR b' x n p r =>
        refine⟨_,rfl,_,rfl,b,2,rfl,B1,⟨by decide,by decide⟩,λ z H2 z0 z1 B2 X2=>?_⟩;have he2:=X2 _ _ he1 (B1.bK he1);have F2:Fix b H H2:=X1.trans X2;obtain⟨k,hk,hkc⟩:∃k:Nat,eY (bR (.aR b' x n p r)) (3+z)=some (V.int (k:Nat))/\k<c:=by
          obtain rfl | rfl:z=0\/z=1:=by omega
          . exact⟨p,rfl,hw p (Hv ..)⟩
          . exact⟨r,rfl,hw r (Hx _ (Hv ..))⟩
        refine⟨_,_,rfl,rfl,ea,_,_,_,rfl,rfl,au.of he2,hk,ln2,λ t nt=>?_⟩;exact q t (.go k) _ af (m9 k) (λ j hj=>by rw[Hm.mp hj];exact hkc) (B2.new nt) (F2.trans (Fix.new nt))
    exists _,rfl,rfl,_,rfl;refine kN ?_ (λ rest hc'=>?_);rotate_left
    . exists _,rfl,ea,_,rfl,.inr (au.of he1),rfl,_,rfl
      refine b5 (λ hd=>?_) (λ hd=>rest);cases e with
      | stop=>exact absurd (of_decide_eq_true hd) (by show ¬V.int 1=V.int 5;decide)
      | go p=>exact absurd (of_decide_eq_true hd) (by show ¬V.int 2=V.int 5;decide)
      | aR b' x n p r =>
        exists _,rfl,ea,_,0,_,rfl,rfl,au.of he1,cg,_,rfl,ea,_,1,_,rfl,rfl,au.of he1,cB,_,rfl,ea,_,2,_,rfl,rfl,au.of he1,at2,_,_,rfl,rfl;refine⟨_,rfl,b,2,rfl,B1,⟨by decide,by decide⟩,λ z H2 z0 z1 B2 X2=>?_⟩;have he2:=X2 _ _ he1 (B1.bK he1);refine⟨_,_,rfl,rfl,(by first | exact .inl ⟨by decide,by decide⟩ | exact .inr ⟨by decide,by decide⟩),_,_,rfl,rfl,_,rfl,ea,_,3,_,rfl,rfl,au.of he2,G6,_,rfl,ea,_,4,_,rfl,rfl,au.of he2,Hb,EH,λ t nt=>?_⟩;exact q t (.aR b' x (n+1-2*z) p r) _ af (nS (jM hlay)) hw (B2.new nt) ((X1.trans X2).trans (Fix.new nt))
    exists _,rfl,rfl,_,rfl;refine kN ?_ (λ rest hc'=>?_);rotate_left
    . exists _,rfl,ea,_,rfl,.inr (au.of he1),rfl,_,rfl
      refine b5 (λ hd=>?_) (λ hd=>rest);cases e with
      | stop=>exact absurd (of_decide_eq_true hd) (by show ¬V.int 1=V.int 2;decide)
      | aR b' x n p r=>exact absurd (of_decide_eq_true hd) (by show ¬V.int 5=V.int 2;decide)
      | go p =>
        refine⟨_,rfl,ea,_,1,_,rfl,rfl,au.of he1,cB,_,rfl,_,rfl,b,c,rfl,B1,⟨by omega,dB ⋯ ⋯⟩,λ z H2 z0 z1 B2 X2=>⟨EH,λ t nt=>?_⟩⟩;obtain⟨k,rfl⟩:∃k:Nat,z=k:=⟨z.toNat,by omega⟩;refine q t (.aR true "zz" 0 p k) _ af (nS ⋯) (λ j hj=>?_) (B2.new nt) ((X1.trans X2).trans (Fix.new nt))
        rcases Ho.mp hj with rfl | hj
        . exact hw _ (Hm.mpr rfl)
        . rw[Hm.mp hj];omega
    exists _,rfl,ea,_,rfl,.inr (au.of he1),rfl,_,rfl;refine b5 (λ hd=>?_) (λ hd=>?_)
    . refine⟨_,rfl,_,rfl,b,c,rfl,B1,⟨by omega,dB ⋯ ⋯⟩,λ z H2 z0 z1 B2 X2=>⟨ln2,λ t nt=>?_⟩⟩
      obtain⟨k,rfl⟩:∃k:Nat,z=k:=⟨z.toNat,by omega⟩;exact q t (.go k) _ af (m9 k) (λ j hj=>by rw[Hm.mp hj];omega) (B2.new nt) ((X1.trans X2).trans (Fix.new nt))
    cases e with
    | stop=>exact absurd (decide_eq_true rfl) hd
    | go p =>
      exists _,rfl,ea,_,rfl,.inr (au.of he1),_,_,rfl,rfl;refine⟨_,rfl,_,rfl,ea,_,rfl,.inr (au.of he1),rfl,.inr ⟨_,rfl,_,_,rfl,rfl,b,1,rfl,B1,⟨by decide,by decide⟩,λ z H2 z0 z1 B2 X2=>?_⟩⟩;have he2:=X2 _ _ he1 (B1.bK he1);obtain rfl:z=0:=by omega
      exists _,_,rfl,rfl;refine⟨_,rfl,_,rfl,1,rfl,ea,_,rfl,au.of he2,λ hw'=>absurd hw'.2 (by show ¬HT.bU 2 2 (some 1)=2;decide),λ _ p1 np1=>?_⟩;have h1:(upd H2 p1 (.tup (cm (bR (.go p)) none (some 1)))) p1=some (.tup [.str "go"]):=af;have s1:=ah.new (o:=.tup (cm (bR (.go p)) none (some 1))) np1;have B21:=B2.new (o:=.tup (cm (bR (.go p)) none (some 1))) np1
      try change (_:Hp->Prop) (upd H2 p1 (.tup (cm (bR (.go p)) none (some 1))))
      generalize (upd H2 p1 (.tup (cm (bR (.go p)) none (some 1))))=H3 at h1 s1 B21 ⊢;refine⟨_,rfl,_,rfl,b,c,rfl,B21,⟨by omega,dB ⋯ ⋯⟩,λ y H4 y0 y1 B4 X4=>⟨og,λ t1 n1=>?_⟩⟩;obtain⟨k,rfl⟩:∃k:Nat,y=k:=⟨y.toNat,by omega⟩;have s4:=ah.new (o:=.tup [.int (k:Int)]) n1;refine⟨p1,t1,_,_,rfl,rfl,s4 _ _ (X4 _ _ h1 (B21.bK h1)),af,(by show 1+1<=sizeLine;decide),λ t2 H5 ht2 s5=>?_⟩;have X25:Fix b H2 H5:=((Fix.of_same s1).trans X4).trans (Fix.of_same (s4.trans s5));have he5:=X25 _ _ he2 (B2.bK he2);have B5:=(B4.new (o:=.tup [.int (k:Int)]) n1).same s5;refine⟨_,rfl,_,rfl,_,_,rfl,rfl,2,rfl,ea,_,rfl,au.of he5,λ hw'=>absurd hw'.1 (by show ¬HT.bU 2 0 (some 2)=0;decide),λ _ p3 np3=>?_⟩;have s6:=ah.new (o:=.tup (cm (bR (.go p)) (some 2) none)) np3;refine⟨t2,p3,_,_,rfl,rfl,s6 _ _ ht2,af,(by show 2<=sizeLine;decide),λ t H7 ht s7=>?_⟩;exact q t (.go k) H7 ht (m9 k) (λ j hj=>by rw[Hm.mp hj];omega) ((B5.same s6).same s7) ((X1.trans X2).trans (X25.trans (Fix.of_same (s6.trans s7))))
    | aR b' x n p r =>
      exists _,rfl,ea,_,rfl,.inr (au.of he1),_,_,rfl,rfl;refine⟨_,rfl,_,rfl,ea,_,rfl,.inr (au.of he1),rfl,.inr ⟨_,rfl,_,_,rfl,rfl,b,2,rfl,B1,⟨by decide,by decide⟩,λ z H2 z0 z1 B2 X2=>?_⟩⟩;have he2:=X2 _ _ he1 (B1.bK he1);exists _,_,rfl,rfl;obtain rfl | rfl:z=0\/z=1:=by omega
      . skip
        refine⟨_,rfl,_,rfl,4,rfl,ea,_,rfl,au.of he2,λ hw'=>absurd hw'.2 (by show ¬HT.bU 5 5 (some 4)=5;decide),λ _ p1 np1=>?_⟩;have h1:(upd H2 p1 (.tup (cm (bR (.aR b' x n p r)) none (some 4)))) p1=some (.tup [.str (wT b'),.str x,.int n,.int (p:Nat)]):=af;have s1:=ah.new (o:=.tup (cm (bR (.aR b' x n p r)) none (some 4))) np1;have B21:=B2.new (o:=.tup (cm (bR (.aR b' x n p r)) none (some 4))) np1
        try change (_:Hp->Prop) (upd H2 p1 (.tup (cm (bR (.aR b' x n p r)) none (some 4))))
        generalize (upd H2 p1 (.tup (cm (bR (.aR b' x n p r)) none (some 4))))=H3 at h1 s1 B21 ⊢;refine⟨_,rfl,_,rfl,b,c,rfl,B21,⟨by omega,dB ⋯ ⋯⟩,λ y H4 y0 y1 B4 X4=>⟨og,λ t1 n1=>?_⟩⟩;obtain⟨k,rfl⟩:∃k:Nat,y=k:=⟨y.toNat,by omega⟩;have s4:=ah.new (o:=.tup [.int (k:Int)]) n1;refine⟨p1,t1,_,_,rfl,rfl,s4 _ _ (X4 _ _ h1 (B21.bK h1)),af,(by show 4+1<=sizeLine;decide),λ t2 H5 ht2 s5=>?_⟩;have X25:Fix b H2 H5:=((Fix.of_same s1).trans X4).trans (Fix.of_same (s4.trans s5));have he5:=X25 _ _ he2 (B2.bK he2);have B5:=(B4.new (o:=.tup [.int (k:Int)]) n1).same s5;refine⟨_,rfl,_,rfl,_,_,rfl,rfl,5,rfl,ea,_,rfl,au.of he5,λ hw'=>absurd hw'.1 (by show ¬HT.bU 5 0 (some 5)=0;decide),λ _ p3 np3=>?_⟩;have s6:=ah.new (o:=.tup (cm (bR (.aR b' x n p r)) (some 5) none)) np3;refine⟨t2,p3,_,_,rfl,rfl,s6 _ _ ht2,af,(by show 5<=sizeLine;decide),λ t H7 ht s7=>?_⟩;refine q t (.aR b' x n p k) H7 ht (nS (jM hlay)) (λ j hj=>?_) ((B5.same s6).same s7) ((X1.trans X2).trans (X25.trans (Fix.of_same (s6.trans s7))))
        rcases Ho.mp hj with rfl | hj
        . exact hw _ (Hv ..)
        . rw[Hm.mp hj];omega
      . skip
        refine⟨_,rfl,_,rfl,3,rfl,ea,_,rfl,au.of he2,λ hw'=>absurd hw'.2 (by show ¬HT.bU 5 5 (some 3)=5;decide),λ _ p1 np1=>?_⟩;have h1:(upd H2 p1 (.tup (cm (bR (.aR b' x n p r)) none (some 3)))) p1=some (.tup [.str (wT b'),.str x,.int n]):=af;have s1:=ah.new (o:=.tup (cm (bR (.aR b' x n p r)) none (some 3))) np1;have B21:=B2.new (o:=.tup (cm (bR (.aR b' x n p r)) none (some 3))) np1
        try change (_:Hp->Prop) (upd H2 p1 (.tup (cm (bR (.aR b' x n p r)) none (some 3))))
        generalize (upd H2 p1 (.tup (cm (bR (.aR b' x n p r)) none (some 3))))=H3 at h1 s1 B21 ⊢;refine⟨_,rfl,_,rfl,b,c,rfl,B21,⟨by omega,dB ⋯ ⋯⟩,λ y H4 y0 y1 B4 X4=>⟨og,λ t1 n1=>?_⟩⟩;obtain⟨k,rfl⟩:∃k:Nat,y=k:=⟨y.toNat,by omega⟩;have s4:=ah.new (o:=.tup [.int (k:Int)]) n1;refine⟨p1,t1,_,_,rfl,rfl,s4 _ _ (X4 _ _ h1 (B21.bK h1)),af,(by show 3+1<=sizeLine;decide),λ t2 H5 ht2 s5=>?_⟩;have X25:Fix b H2 H5:=((Fix.of_same s1).trans X4).trans (Fix.of_same (s4.trans s5));have he5:=X25 _ _ he2 (B2.bK he2);have B5:=(B4.new (o:=.tup [.int (k:Int)]) n1).same s5;refine⟨_,rfl,_,rfl,_,_,rfl,rfl,4,rfl,ea,_,rfl,au.of he5,λ hw'=>absurd hw'.1 (by show ¬HT.bU 5 0 (some 4)=0;decide),λ _ p3 np3=>?_⟩;have s6:=ah.new (o:=.tup (cm (bR (.aR b' x n p r)) (some 4) none)) np3;refine⟨t2,p3,_,_,rfl,rfl,s6 _ _ ht2,af,(by show 5<=sizeLine;decide),λ t H7 ht s7=>?_⟩;refine q t (.aR b' x n k r) H7 ht (nS (jM hlay)) (λ j hj=>?_) ((B5.same s6).same s7) ((X1.trans X2).trans (X25.trans (Fix.of_same (s6.trans s7))))
        rcases Ho.mp hj with rfl | hj
        . omega
        . rw[Hm.mp hj];exact hw _ (Hx _ (Hv ..))
theorem mq {f:Addr} {fd:FuncData} (F:b4 K "_law_other_spoilt" "_law_other_spoilt" gh f fd) (Z:Bl mg) (ac:Own P w K mg base "_law_take" 1 ["bag", "many"] fL) (wn:Own P w K mg base "_law_end_spoilt" 3 ["bag", "end", "count"] tM):bA P w K mg base bY 4 f fd ["bag", "other"] tN:=by
  refine F.ok (k:=3) bZ (λ vs H Q E h=>?_) (λ cdv A outer s H vs Q E hr h=>?_)
  . obtain⟨b,qlv,qs,rfl,_⟩:=h
    rfl
  . obtain⟨b,qlv,qs,rfl,hB,hq,hin,hlay,hdlen,h0,hn,q⟩:=h
    refine⟨_,(ai (aN (i:=2) bZ.nd rfl (Hj rfl) (bw jt rfl Z.list qU (aa (pv 1) ae)))
      (ai (aN (i:=3) bZ.nd rfl (Hj rfl) (aw ac (hr.mono ⋯) rfl (aa (pv 0) (aa (aP aO rfl Z.len bM (aa (pv 2) ae)) ae))))
      (ai (cA (aH cf (pv 2) (pv 3) (λ _ _=>rfl)) (bX rfl (aJ (ay (i:=4) bZ.nd rfl (Hj rfl)) (aJ (ay (i:=5) bZ.nd rfl (Hj rfl)) bN))))
      (ai (aN (i:=6) bZ.nd rfl (Hj rfl) (aw ac (hr.mono ⋯) rfl (aa (pv 0) (aa ao ae))))
      (ai (cY (aS (PW.pt (df (aB bC (pv 6) ao (aG _)) (cS (aB (pR hr.units) (pv 4) (aX ae) (aG _)))))
      (ai (aN (i:=7) bZ.nd rfl (Hj rfl) (aw ac (hr.mono ⋯) rfl (aa (pv 0) (aa (aP aO rfl Z.len bM (aa (pv 4) ae)) ae))))
      (ar (aN (i:=4) bZ.nd rfl (Hj rfl) (bh kG (fV gX (pv 4) gU (gW (pv 7))) (fV gX (pv 4) (gW (bh cK (pv 7) ao)) gU)))))
      (ar (aS (PW.pt (df (aB bC (pv 6) ao (aG _)) (cS (aB fP (aP aO rfl Z.len bM (aa (pv 4) ae)) ao (aG _)))))
      (ar (aN (i:=4) bZ.nd rfl (Hj rfl) (bh kG (pv 4) (aX (aa (aX (aa bG (aa bG ae))) ae)))))
      (ar (aN (i:=5) bZ.nd rfl (Hj rfl) (aw wn (hr.mono ⋯) rfl (aa (pv 0) (aa (pv 5) (aa (aP aO rfl Z.len bM (aa (pv 2) ae)) ae))))))))))
      (ai (kM (aX (aa (pv 4) (aa (pv 5) ae))) (hR (pv 2) (pv 3) set_list))
      (ar (aF (bw bL rfl Z.tuple cL (aa (pv 2) ae)))))))))),?_⟩
    obtain⟨qp,ws,rfl,hqp,rws⟩:=bg.bQ (show bg H qlv (.tuple (qs.map eN)) from hq);have hwl:ws.length=qs.length:=by have:=rws.len;rw[Hk] at this;exact this
    refine⟨_,rfl,qp,_,rfl,.inr (au.of hqp),λ so nso=>?_⟩;have s1:=ah.new (o:=.lst ws) nso;have hso:(upd H so (.lst ws)) so=some (.lst ws):=af
    try change (_:Hp->Prop) (upd H so (.lst ws))
    generalize (upd H so (.lst ws))=H1 at s1 hso ⊢;have B1:=hB.same s1;have nsb:so≠b:=hB.d6 nso;refine⟨_,rfl,_,rfl,so,_,rfl,.inl (aT.of hso),b,_,rfl,B1,⟨by omega,dB ⋯ ⋯⟩,λ r H2 r0 r1 B2 X2=>?_⟩;obtain⟨k,rfl⟩:∃k:Nat,r=k:=⟨r.toNat,by omega⟩;have hk:k<qs.length:=by omega
    have hqk:qs[k]?=some qs[k]:=by simp[hk]
    generalize qs[k]=pc at hqk;obtain⟨ds,e⟩:=pc;obtain⟨p',xs',qc,da,ea,wd,ep,e1',el',hx',e2,e3,r3,e4⟩:=fE hq hqk;cases ep;rw[hqp] at e1';cases e1';have kp:∀p zs,H p=some (.tup zs)->H2 p=some (.tup zs):=λ p zs e=>X2 p _ (s1 _ _ e) (B1.bK (s1 _ _ e))
    have hso2:=X2 _ _ hso nsb;exists _,rfl,_,rfl,so,_,_,_,rfl,rfl,aT.of hso2,bH hx',qc,_,rfl,au.of (kp _ _ e2),rfl,_,_,rfl,_,_,rfl,rfl;refine⟨_,rfl,b,5,rfl,B2,⟨by decide,by decide⟩,λ way H3 w0 w1 B3 X3=>?_⟩;have kp3:∀p zs,H p=some (.tup zs)->H3 p=some (.tup zs):=λ p zs e=>X3 p _ (kp _ _ e) (B2.bK (kp _ _ e))
    have F3:Fix b H H3:=((Fix.of_same s1).trans X2).trans X3;have hso3:=X3 _ _ hso2 nsb;have hda3:=kp3 _ _ e3;have hea3:=kp3 _ _ e4;have rd3:=r3.aM kp3 (bE ds);have hly:=hlay _ (Hy hqk);have hwy:∀w∈aU e,w<qs.length:=λ w hw=>nR hin (Hy hqk) hw
    have kt0:∀p zs,H p=some (.tup zs)->H3 p=some (.tup zs):=kp3;clear B2 X2 hso2 kp;exists λ σ' H'=>∃(da' ea':Addr) (wd':List V) (ds':List cH) (e':L2.End) (u7:Option V),σ' = [some (.ref b),some (.ref qp),some (.ref so),some (.int (k:Nat)),some (.ref da'),some (.ref ea'),some (.int way),u7]/\H' da' = some (.tup wd')/\bp H' wd' (ds'.map bI)/\H' ea' = some (.tup (bR e'))/\(PyData.tuple (ds'.map bI)).canLay0=true/\ds'.length<=12/\(e6 e').canLay0=true/\(∀w∈aU e',w<qs.length)/\cy H' b/\Fix b H H'/\H' so=some (.lst ws)/\∀p zs,H p=some (.tup zs)->H' p=some (.tup zs),?_
    . exists _,rfl,rfl,_,rfl
      refine DV (H3:=H3) (λ H4 s34=>?_) (λ rest hc=>?_);rotate_left
      . refine⟨_,rfl,(by show 0<=sizeLine;decide),λ t0 n0=>?_⟩
        have s0:=ah.new (o:=.tup []) n0;have dep0:=(ie hly.1).dep;have depE:(PyData.tuple ([]:List PyData)).depth<=1:=Hn 1;exists _,_,.tup (s0 _ _ hda3) (rd3.same s0 (bE ds)),.tup af .nil,hly.1,rfl,⋯,_,rfl;refine b5 (λ hd=>?_) (λ hd=>rest _ s0);have hwl':wd.length=ds.length:=by have:=rd3.len;rw[Hk] at this;exact this
        have hds:0<ds.length:=by
          cases ds with
          | nil=>exact absurd hd ⋯
          | cons d ds=>exact Nat.succ_pos _
        have B4:=B3.same s0;have hda4:=s0 _ _ hda3
        try change (_:Hp->Prop) (upd H3 t0 (.tup []))
        generalize (upd H3 t0 (.tup []))=H4 at s0 B4 hda4 ⊢;have hdl:ds.length<=12:=hdlen _ (Hy hqk);refine⟨_,rfl,_,rfl,da,_,rfl,.inr (au.of hda4),b,_,rfl,B4,⟨by omega,dB ⋯ ⋯⟩,λ r H6 r0' r1' B6 X6=>?_⟩;obtain⟨m,rfl⟩:∃m:Nat,r=m:=⟨r.toNat,by omega⟩;have hm:m<wd.length:=by omega
        have X36:Fix b H3 H6:=(Fix.of_same s0).trans X6;have hda6:=X6 _ _ hda4 (B4.bK hda4);have hea6:=X36 _ _ hea3 (B3.bK hea3);have rd6:=rd3.aM (λ p zs e=>X36 _ _ e (B3.bK e)) (bE ds);obtain⟨d1,c1,c2⟩:=Al rd6 none (some (m:Int));obtain⟨d2,c3,c4⟩:=Al rd6 (some ((m+1:Nat):Int)) none;have hlen:=Cb hm;have l1:=c1.len;have l2:=c3.len;rw[Hk] at l1 l2;refine⟨_,rfl,_,rfl,(m:Int),rfl,da,_,rfl,au.of hda6,λ hw'=>absurd hw'.2 (by rw[HT.jd];omega),λ _ p1 np1=>?_⟩;have s7:=ah.new (o:=.tup (cm wd none (some (m:Int)))) np1;refine⟨_,rfl,_,rfl,_,_,rfl,rfl,((m+1:Nat):Int),rfl,da,_,rfl,au.of (s7 _ _ hda6),λ hw'=>absurd hw'.1 (by rw[HT.jd];omega),λ _ p2 np2=>?_⟩;have s8:=ah.new (o:=.tup (cm wd (some ((m+1:Nat):Int)) none)) np2;refine⟨p1,p2,_,_,rfl,rfl,s8 _ _ af,af,(by exact Hu (show _<=12 by omega) ⋯),λ t H9 ht s9=>?_⟩;have s69:=(s7.trans s8).trans s9;have X39:Fix b H3 H9:=X36.trans (Fix.of_same s69);refine⟨t,ea,_,d1++d2,e,_,rfl,ht,?_,s69 _ _ hea6,xF hly.1 (λ d hd=>.inl ((HI.mp hd).elim (c2 d) (c4 d))),(by rw[Ht];omega),hly.2,hwy,B6.same s69,F3.trans X39,X39 _ _ hso3 nsb,λ p zs e=>X39 _ _ (kp3 _ _ e) (B3.bK (kp3 _ _ e))⟩;rw[HA];exact bp.Fh (c3.same s69 (bE d2)) (c1.same s69 (bE d1))
      have B4:=B3.same s34;have hso4:=s34 _ _ hso3;have hda4:=s34 _ _ hda3;have hea4:=s34 _ _ hea3;have rd4:=rd3.same s34 (bE ds);have F4:Fix b H H4:=F3.trans (Fix.of_same s34);have kp4:∀p zs,H p=some (.tup zs)->H4 p=some (.tup zs):=λ p zs e=>s34 _ _ (kp3 _ _ e)
      exists _,rfl,rfl,_,rfl;refine kN ?_ (λ rest hc=>?_);rotate_left
      . exists _,rfl,da,_,rfl,.inr (au.of hda4),_,_,rfl,rfl,_,rfl
        refine b5 (λ hd=>?_) (λ hd=>rest);have hdl:ds.length<12:=by
          have hd:decide (((wd.length:Nat):Int)<12)=true:=hd;have:=of_decide_eq_true hd;have hl:=rd4.len;rw[Hk] at hl;omega
        refine⟨_,rfl,ln2,λ t1 n1=>⟨og,λ t2 n2=>?_⟩⟩;have q1:=ah.new (o:=.tup [.str "tell",.str "zz"]) n1;have q2:=ah.new (o:=.tup [.ref t1]) n2;have hwl':wd.length=ds.length:=by have:=rd4.len;rw[Hk] at this;exact this
        refine⟨da,t2,_,_,rfl,rfl,q2 _ _ (q1 _ _ hda4),af,(by show _<=sizeLine;rw[hwl'];exact Hu (show _<=13 by show _+1<=13;omega) ⋯),λ t H6 ht s6=>?_⟩;have s46:=(q1.trans q2).trans s6;have r1:bg H6 (.ref t1) (bI (.tell "zz")):=.tup (s6 _ _ (q2 _ _ af)) (.cons (.str _) (.cons (.str _) .nil));refine⟨t,ea,_,ds++[.tell "zz"],e,_,rfl,ht,?_,s46 _ _ hea4,xF hly.1 (λ d hd=>?_),(by rw[Ht];show _+1<=12;omega),hly.2,hwy,B4.same s46,F4.trans (Fix.of_same s46),s46 _ _ hso4,λ p zs e=>s46 _ _ (kp4 _ _ e)⟩
        . rw[HA]
          exact bp.app (rd4.same s46 (bE ds)) r1
        . rcases HI.mp hd with hd | hd
          . exact .inl hd
          . exact .inr (Hm.mp hd)
      refine⟨_,rfl,_,rfl,_,rfl,so,_,rfl,.inl (aT.of hso4),b,ea,e,qs.length,(by rw[hwl];rfl),B4,hea4,hly.2,hwy,h0,hn,λ t e' H6 ht hl' hw' B6 X6=>?_⟩;exact⟨da,t,wd,ds,e',_,rfl,X6 _ _ hda4 (B4.bK hda4),rd4.aM (λ p zs e=>X6 _ _ e (B4.bK e)) (bE ds),ht,hly.1,hdlen _ (Hy hqk),hl',hw',B6,F4.trans X6,X6 _ _ hso4 nsb,λ p zs e=>X6 _ _ (kp4 _ _ e) (B4.bK (kp4 _ _ e))⟩
    rintro σ' H5 ⟨da',ea',wd',ds',e',u7,rfl,a1,a2,a3,a4,a45,a5,a6,B5,F5,hso5,kp5⟩;refine⟨_,rfl,_,rfl,ln2,λ t nt=>?_⟩;have s6:=ah.new (o:=.tup [.ref da',.ref ea']) nt;exists _,rfl,_,rfl,so,_,_,k,rfl,rfl,s6 _ _ hso5,jf (by rw[hwl];exact hk);have hso6:=s6 _ _ hso5;have kt:∀p zs,H5 p=some (.tup zs)->(upd (upd H5 t (.tup [.ref da',.ref ea'])) so (.lst (ws.set k (.ref t)))) p=some (.tup zs):=λ p zs e=>by rw[av (bP (s6 _ _ e) hso6 (by intro z;cases z))];exact s6 _ _ e
    have rt:bg (upd (upd H5 t (.tup [.ref da',.ref ea'])) so (.lst (ws.set k (.ref t)))) (.ref t) (eN (ds',e')):=.tup (by rw[av (bP (af (H:=H5) (a:=t) (o:=.tup [.ref da',.ref ea'])) hso6 (by intro z;cases z))];exact af) (.cons (.tup (kt _ _ a1) (a2.aM kt (bE ds'))) (.cons (zZ (kt _ _ a3)) .nil));refine⟨_,rfl,so,_,rfl,.inl ⟨aT.of af,λ t' nt'=>?_⟩⟩;have s7:=ah.new (o:=.tup (ws.set k (.ref t))) nt';have rall:=bp.setAt rt k (rws.aM (λ p zs e=>kt _ _ (kp5 _ _ e)) (cJ qs));refine q (.ref t') (qs.set k (ds',e')) _ ?_ (IP ..) (Ca hin a6) (DU hlay ⟨a4,a5⟩) (λ p hp=>(Jy hp).elim (hdlen p) λ z=>by rw[z];exact a45) (((B5.same s6).put nsb.symm).new nt') ?_
    . refine .tup af ?_
      rw[<-List.map_set] at rall;exact rall.same s7 (cJ _)
    . intro c oo e ne
      refine s7 _ _ ?_;rw[av (aQ e nso)];exact s6 _ _ (F5 c oo e ne)
theorem mr {f:Addr} {fd:FuncData} (F:b4 K "_law_paper_spoilt" "_law_paper_spoilt" gi f fd) (Z:Bl mg) (ac:Own P w K mg base "_law_take" 1 ["bag", "many"] fL) (ww:Own P w K mg base "_law_facts_spoilt" 4 ["bag", "facts"] tI):bA P w K mg base bY 5 f fd ["bag", "paper", "count"] tO:=by
  refine F.ok (k:=4) cZ (λ vs H Q E h=>?_) (λ cdv A outer s H vs Q E hr h=>?_)
  . obtain⟨b,pa,us,tab,xs,n,rfl,_⟩:=h
    rfl
  . obtain⟨b,pa,us,tab,xs,n,rfl,hB,hta,hb,tok,hzz,h50,h0,h400,q⟩:=h
    refine⟨_,(ai (aN (i:=3) cZ.nd rfl (Hj rfl) (bw jt rfl Z.list qU (aa (pv 1) ae)))
      (ai (aN (i:=4) cZ.nd rfl (Hj rfl) (bh iP (aw ac (hr.mono ⋯) rfl (aa (pv 0) (aa (aP aO rfl Z.len bM (aa (pv 3) ae)) ae))) (bw fU rfl Z.int ju (aa (dP iJ (aw ac (hr.mono ⋯) rfl (aa (pv 0) (aa ao ae))) ao (aG _)) ae))))
      (ai (cA (aH cf (pv 3) (pv 4) (λ _ _=>rfl)) (bX rfl (aJ (ay (i:=5) cZ.nd rfl (Hj rfl)) (aJ (ay (i:=6) cZ.nd rfl (Hj rfl)) bN))))
      (ai (aN (i:=7) cZ.nd rfl (Hj rfl) (aw ac (hr.mono ⋯) rfl (aa (pv 0) (aa ao ae))))
      (ai (cY (aS (aB bC (pv 7) ao (aG _))
      (ar (kM (aX (aa (bh cK (pv 5) ao) (aa (pv 6) ae))) (hR (pv 3) (pv 4) set_list)))
      (ar (aS (aB bC (pv 7) ao (aG _))
      (ar (kM (aX (aa (aH cf (cU (aa (xO uI ao) (aa (pv 2) (aa (bh mz ao ao) ae)))) (aw ac (hr.mono ⋯) rfl (aa (pv 0) (aa ao ae))) (λ _ _=>rfl)) (aa (pv 6) ae))) (hR (pv 3) (pv 4) set_list)))
      (ar (aS (aB bC (pv 7) ao (aG _))
      (ar (kM (aH cf (pv 3) (aw ac (hr.mono ⋯) rfl (aa (pv 0) (aa (aP aO rfl Z.len bM (aa (pv 3) ae)) ae))) (λ _ _=>rfl)) (hR (pv 3) (pv 4) set_list)))
      (ar (aS (PW.pt (df (aB bC (pv 7) ao (aG _)) (cS (aB iJ (aP aO rfl Z.len bM (aa (pv 3) ae)) ao (aG _)))))
      (ar (eD (gI PySem.F.plainAttrs_list PySem.F.slot_list_pop PySem.F.type_list_pop AW (pv 3) (aa (pv 4) ae))))
      (ar (aS (PW.pt (df (aB bC (pv 7) ao (aG _)) (cS (aB fP (aP aO rfl Z.len bM (aa (pv 3) ae)) ao (aG _)))))
      (ar (eD (gI PySem.F.plainAttrs_list PySem.F.slot_list_insert PySem.F.type_list_insert BX (pv 3) (aa (pv 4) (aa (aH cf (pv 3) (pv 4) (λ _ _=>rfl)) ae)))))
      (ar (kM (aX (aa (pv 5) (aa (aw ww (hr.mono ⋯) rfl (aa (pv 0) (aa (pv 6) ae))) ae))) (hR (pv 3) (pv 4) set_list)))))))))))))
      (ar (aF (bw bL rfl Z.tuple cL (aa (pv 3) ae))))))))),?_⟩
    have hul:=dZ hb;refine⟨_,rfl,pa,_,rfl,.inr (au.of hta),λ so nso=>?_⟩;have s1:=ah.new (o:=.lst us) nso;have hso:(upd H so (.lst us)) so=some (.lst us):=af
    try change (_:Hp->Prop) (upd H so (.lst us))
    generalize (upd H so (.lst us))=H1 at s1 hso ⊢;have B1:=hB.same s1;have hb1:=cC.same hb s1;have nsb:so≠b:=hB.d6 nso;refine⟨_,rfl,_,rfl,so,_,rfl,.inl (aT.of hso),b,_,rfl,B1,⟨by omega,dB ⋯ ⋯⟩,λ r H2 r0 r1 B2 X2=>?_⟩;refine⟨_,rfl,b,3,rfl,B2,⟨by decide,by decide⟩,λ r2 H3 r20 r21 B3 X3=>?_⟩;exists _,_,rfl,rfl;refine .inr ⟨_,rfl,?_⟩;obtain⟨k,hkr,hkt⟩:∃k:Nat,r*(if decide (0<r2)=true then 1 else 0)=(k:Int)/\k<tab.length:=by
      cases decide (0<r2)
      . exact⟨0,by simp,h0⟩
      . exact⟨r.toNat,by simp;omega,by omega⟩
    exists _,_,rfl,rfl,(by cases decide (0<r2)<;>exact .inr ⟨by decide,by decide⟩);have e0:((λ i j:Int=>V.int (i*j)) r (if decide (0<r2)=true then 1 else 0))=V.int (k:Int):=congrArg V.int hkr
    first | rw[e0] | rw[hkr]
    have X13:Fix b H1 H3:=X2.trans X3;have hso3:=X13 _ _ hso nsb;have hb3:cC H3 us tab:=hb1.vH B1 X13;have hokk:tab[k]?=some tab[k]:=by simp[hkt]
    generalize tab[k]=o at hokk;obtain⟨v,hv,bo⟩:=fJ hb3 hokk;have oko:cn xs o.2:=tok o (Hy hokk);obtain⟨qa,fv,rfl,hqa,hfv⟩:=id bo;exists _,rfl,_,rfl,so,_,_,_,rfl,rfl,aT.of hso3,bH hv,qa,_,rfl,au.of hqa,rfl,_,_,rfl,_,_,rfl,rfl;refine⟨_,rfl,b,8,rfl,B3,⟨by decide,by decide⟩,λ way H4 w0 w1 B4 X4=>?_⟩;have F4:Fix b H H4:=((Fix.of_same s1).trans X13).trans X4;have hso4:=X4 _ _ hso3 nsb;have hb4:cC H4 us tab:=hb3.vH B3 X4;have hfv4:FV H4 fv o.2:=hfv.aM λ p zs e=>X4 p _ e (B3.bK e)
    have bo4:oG H4 (.ref qa) o:=bo.aM λ p zs e=>X4 p _ e (B3.bK e)
    clear bo hb3 hso3 X4 X13 X3 X2 B3 B2 hqa hfv hb1 B1 hso;have fin:∀(H5:Hp) (v:V) (o':Pp),H5 so=some (.lst us)->cC H5 us tab->cy H5 b->Fix b H H5->oG H5 v o'->cn xs o'.2->∃(us':List V) (tab':List Pp),([some (.ref b),some (.ref pa),some (.int n),some (.ref so),some (.int (k:Nat)),some (.int o.1),some fv,some (.int way)]:List (Option V))=[some (.ref b),some (.ref pa),some (.int n),some (.ref so),some (.int (k:Nat)),some (.int o.1),some fv,some (.int way)]/\(upd H5 so (.lst (us.set k v))) so=some (.lst us')/\cC (upd H5 so (.lst (us.set k v))) us' tab'/\(∀c∈tab',cn xs c.2)/\0<tab'.length/\tab'.length<=400/\cy (upd H5 so (.lst (us.set k v))) b/\Fix b H (upd H5 so (.lst (us.set k v))):=λ H5 v o' a1 a2 a3 a4 a5 a6=>by
      have kt:∀p zs,H5 p=some (.tup zs)->(upd H5 so (.lst (us.set k v))) p=some (.tup zs):=λ p zs e=>by rw[av (bP e a1 (by intro z;cases z))];exact e
      refine⟨us.set k v,tab.set k o',rfl,af,qB (F:=oG _) (a5.aM kt) k (cC.aM kt a2),(λ c hc=>?_),(by rw[IP];exact h0),(by rw[IP];exact h400),a3.put nsb.symm,λ c oo e ne=>?_⟩
      . rcases Jy hc with hc | rfl
        . exact tok c hc
        . exact a6
      . rw[av (aQ e nso)]
        exact a4 c oo e ne
    exists λ σ' H'=>∃(us':List V) (tab':List Pp),σ' = [some (.ref b),some (.ref pa),some (.int n),some (.ref so),some (.int (k:Nat)),some (.int o.1),some fv,some (.int way)]/\H' so=some (.lst us')/\cC H' us' tab'/\(∀c∈tab',cn xs c.2)/\0<tab'.length/\tab'.length<=400/\cy H' b/\Fix b H H',?_
    . exists _,rfl,rfl,_,rfl
      refine b5 (λ hc=>?_) (λ hc=>?_)
      . refine⟨_,rfl,_,_,rfl,rfl,_,rfl,ln2,λ t nt=>?_⟩
        have s5:=ah.new (o:=.tup [.int (o.1+1),fv]) nt;exists _,rfl,_,rfl,so,_,_,k,rfl,rfl,s5 _ _ hso4,jf (by rw[hul];exact hkt);exact fin _ (.ref t) (o.1+1,o.2) (s5 _ _ hso4) (cC.same hb4 s5) (B4.same s5) (F4.trans (Fix.of_same s5)) ⟨t,fv,rfl,af,hfv4.same s5⟩ oko
      exists _,rfl,rfl,_,rfl;refine b5 (λ hc=>?_) (λ hc=>?_)
      . refine⟨_,rfl,_,rfl,10,39,rfl,rfl,⟨by decide,by decide,by decide⟩,sG,λ l nl=>?_⟩
        refine⟨_,rfl,b,3,rfl,B4.new nl,⟨by decide,by decide⟩,λ z H5 z0 z1 B5 X5=>?_⟩;have hl5:=X5 l _ af (B4.d6 nl);have F45:Fix b H4 H5:=(Fix.new nl).trans X5;obtain⟨m,hm⟩:∃m:Int,eY [V.int (-1),V.int n,V.int ((10:Int) ^ (39:Int).toNat)] z=some (V.int m):=by
          obtain rfl | rfl | rfl:z=0\/z=1\/z=2:=by omega
          . exact⟨_,cg⟩
          . exact⟨_,cB⟩
          . exact⟨_,at2⟩
        refine⟨l,_,_,_,rfl,rfl,aT.of hl5,hm,_,rfl,ln2,λ t nt=>?_⟩;have s6:=ah.new (o:=.tup [.int m,fv]) nt;have hso6:=s6 _ _ (F45 _ _ hso4 nsb);have fv5:FV H5 fv o.2:=hfv4.aM λ p zs e=>F45 p _ e (B4.bK e)
        exists _,rfl,_,rfl,so,_,_,k,rfl,rfl,hso6,jf (by rw[hul];exact hkt);exact fin _ (.ref t) (m,o.2) hso6 (cC.same (hb4.vH B4 F45) s6) (B5.same s6) ((F4.trans F45).trans (Fix.of_same s6)) ⟨t,fv,rfl,af,fv5.same s6⟩ oko
      exists _,rfl,rfl,_,rfl;refine b5 (λ hc=>?_) (λ hc=>?_)
      . refine⟨_,rfl,_,rfl,_,rfl,so,_,rfl,.inl (aT.of hso4),b,_,rfl,B4,⟨by omega,dB ⋯ ⋯⟩,λ r3 H5 r30 r31 B5 X5=>?_⟩
        obtain⟨k3,rfl⟩:∃k:Nat,r3=k:=⟨r3.toNat,by omega⟩;have hk3:k3<tab.length:=by omega
        have hok3:tab[k3]?=some tab[k3]:=by simp[hk3]
        generalize tab[k3]=o3 at hok3;obtain⟨v3,hv3,bo3⟩:=fJ hb4 hok3;have hso5:=X5 _ _ hso4 nsb;exists so,_,_,_,rfl,rfl,aT.of hso5,bH hv3;exists _,rfl,_,rfl,so,_,_,k,rfl,rfl,hso5,jf (by rw[hul];exact hkt);exact fin H5 v3 o3 hso5 (hb4.vH B4 X5) B5 (F4.trans X5) (bo3.aM λ p zs e=>X5 _ _ e (B4.bK e)) (tok o3 (Hy hok3))
      exists _,rfl,rfl,_,rfl;have upto:∀(us':List V) (tab':List Pp),Paired (oG H4) us' tab'->(∀c∈tab',cn xs c.2)->0<tab'.length->tab'.length<=400->∃(us'':List V) (tab':List Pp),([some (.ref b),some (.ref pa),some (.int n),some (.ref so),some (.int (k:Nat)),some (.int o.1),some fv,some (.int way)]:List (Option V))=[some (.ref b),some (.ref pa),some (.int n),some (.ref so),some (.int (k:Nat)),some (.int o.1),some fv,some (.int way)]/\(upd H4 so (.lst us')) so=some (.lst us'')/\cC (upd H4 so (.lst us')) us'' tab'/\(∀c∈tab',cn xs c.2)/\0<tab'.length/\tab'.length<=400/\cy (upd H4 so (.lst us')) b/\Fix b H (upd H4 so (.lst us')):=λ us' tab' a1 a2 a3 a4=>by
        have kt:∀p zs,H4 p=some (.tup zs)->(upd H4 so (.lst us')) p=some (.tup zs):=λ p zs e=>by rw[av (bP e hso4 (by intro z;cases z))];exact e
        refine⟨us',tab',rfl,af,cC.aM kt a1,a2,a3,a4,B4.put nsb.symm,λ c oo e ne=>?_⟩;rw[av (aQ e nso)];exact F4 c oo e ne
      refine kN ?_ (λ rest hc=>?_);rotate_left
      . exists _,rfl,so,_,rfl,.inl (aT.of hso4),_,_,rfl,rfl,_,rfl
        refine b5 (λ hd=>?_) (λ hd=>?_)
        . have h2:1<tab.length:=by
            have hd:decide (((us.length:Nat):Int) > 1)=true:=hd;have:=of_decide_eq_true hd;omega
          exists _,rfl,.inl ⟨rfl,_,aT.of hso4⟩,_,rfl,so,_,_,k,_,rfl,rfl,hso4,⋯,⋯,(qS (jf (by rw[hul];exact hkt))).1,hv;have hlen:(tab.eraseIdx k).length=tab.length-1:=by rw[List.length_eraseIdx];rw[if_pos hkt]
          exact upto _ (tab.eraseIdx k) (mh k hb4) (λ T hT=>tok T (List.mem_of_mem_eraseIdx hT)) ⋯ ⋯
        . exact rest
      exists _,rfl,rfl,_,rfl;refine kN ?_ (λ rest hc=>?_);rotate_left
      . exists _,rfl,so,_,rfl,.inl (aT.of hso4),_,_,rfl,rfl,_,rfl
        refine b5 (λ hd=>?_) (λ hd=>?_)
        . have h2:tab.length<400:=by
            have hd:decide (((us.length:Nat):Int)<400)=true:=hd;have:=of_decide_eq_true hd;omega
          exists _,rfl,.inl ⟨rfl,_,aT.of hso4⟩,_,rfl,_,rfl,_,rfl,so,_,_,_,rfl,rfl,aT.of hso4,bH hv,so,_,_,k,_,rfl,rfl,rfl,hso4,⋯,⋯;have hlen:(tab.take k++o::tab.drop k).length=tab.length+1:=by simp;omega
          refine upto _ (tab.take k++o::tab.drop k) (L2.dY (oE k hb4) (.cons bo4 (oF k hb4))) (λ T hT=>?_) ⋯ ⋯
          rcases HI.mp hT with h | h
          . exact tok T (Jx h)
          . rcases Ho.mp h with h | h
            . rw[h];exact oko
            . exact tok T (List.mem_of_mem_drop h)
        . exact rest
      refine⟨_,rfl,_,rfl,_,rfl,b,fv,o.2,xs,rfl,B4,hfv4,oko,hzz,h50,λ v' T' H5 f5 tok5 B5 X5=>⟨ln2,λ t nt=>?_⟩⟩;have s6:=ah.new (o:=.tup [.int o.1,v']) nt;have hso6:=s6 _ _ (X5 _ _ hso4 nsb);exists _,rfl,_,rfl,so,_,_,k,rfl,rfl,hso6,jf (by rw[hul];exact hkt);exact fin _ (.ref t) (o.1,T') hso6 (cC.same (hb4.vH B4 X5) s6) (B5.same s6) ((F4.trans X5).trans (Fix.of_same s6)) ⟨t,v',rfl,af,f5.same s6⟩ tok5
    rintro σ' H5 ⟨us',tab',rfl,a1,a2,a3,a4,a5,a6,a7⟩;refine⟨_,rfl,so,_,rfl,.inl ⟨aT.of a1,λ t nt=>?_⟩⟩;exact q t us' tab' _ af (cC.same a2 (ah.new nt)) a3 a4 a5 (a6.new nt) (a7.trans (Fix.new nt))
theorem vU {f:Addr} {fd:FuncData} (F:b4 K "_law_leads" "_law_leads" kj f fd) (Z:Bl mg) (wP:Own P w K mg base "_law_part" 1 ["stretch", "word", "number", "side"] xp) (am:Own P w K mg base "_law_with" 1 ["facts", "name", "stretch"] nP):bA P w K mg base bY 3 f fd ["facts", "end"] tR:=by
  refine F.ok (k:=2) il (λ vs H Q E h=>?_) (λ cdv A outer s H vs Q E hr h=>?_)
  . obtain⟨d,ea,T,e,m,rfl,_⟩:=h
    rfl
  . obtain⟨d,ea,T,e,m,rfl,lt,hm,le,he,q⟩:=h
    refine⟨_,(ai (aS (aB bC (aH aL (pv 1) ao (λ _ _=>rfl)) bG (aG _))
      (ar (aF (cU ae)))
      aK)
      (ai (aS (aB bC (aH aL (pv 1) ao (λ _ _=>rfl)) bG (aG _))
      (ar (aF (cU (aa (aX (aa cD (aa (aH aL (pv 1) ao (λ _ _=>rfl)) (aa (pv 0) ae)))) ae))))
      aK)
      (ai (aN (i:=2) il.nd rfl (Hj rfl) (cU ae))
      (ai (dJ PassesOwn.never rfl (jc (cU (aa cM (aa cM ae)))) (ay (i:=3) il.nd rfl (Hj rfl))
      (ai (cY (aN (i:=4) il.nd rfl (Hj rfl) (aw wP (hr.mono ⋯) rfl (aa (d9 (dW hr) (pv 0) (aH aL (pv 1) ao (λ _ _=>rfl)) (aX (aa cD (aa cD ae))) ⟨rfl,rfl,rfl,rfl⟩) (aa (aH aL (pv 1) ao (λ _ _=>rfl)) (aa (aH aL (pv 1) ao (λ _ _=>rfl)) (aa (pv 3) ae)))))))
      (ar (aS (cO (cX (pv 4)))
      (ar (eD (gI PySem.F.plainAttrs_list PySem.F.slot_list_append PySem.F.type_list_append fW (pv 2) (aa (aX (aa (pv 3) (aa (aH aL (pv 1) (bh eM ao (bw fU rfl Z.int ju (aa (pv 3) ae))) (λ _ _=>rfl)) (aa (aw am (hr.mono ⋯) rfl (aa (pv 0) (aa (aH aL (pv 1) ao (λ _ _=>rfl)) (aa (pv 4) ae)))) ae)))) ae))))
      aK))))
      (ar (aF (pv 2))))))),?_⟩
    exists _,rfl,ea,_,0,_,rfl,rfl,au.of he,(by cases e<;>exact cg:eY (bR e) 0=some (V.str (wE e))),rfl,_,rfl;cases e with
    | stop =>
      refine bJ (show decide (V.str "stop" = V.str "stop")=true by decide) ?_;exact⟨(by show 0<=sizeLine;decide),λ l hl=>q l [] _ af .nil (ah.new hl)⟩
    | go p =>
      refine aY (show decide (V.str "go" = V.str "stop")=false by decide) ?_;exists _,rfl,ea,_,0,_,rfl,rfl,au.of he,cg,rfl,_,rfl;refine bJ (show decide (V.str "go" = V.str "go")=true by decide) ?_;refine⟨_,rfl,ea,_,1,_,rfl,rfl,au.of he,cB,_,rfl,sG,λ t nt=>⟨og,λ l hl=>?_⟩⟩;have q1:=ah.new (o:=.tup [.aZ,.int (p:Nat),.ref d]) nt;have q2:=ah.new (o:=.lst [V.ref t]) hl;exact q l _ _ af (.cons ⟨t,d,rfl,q2 _ _ af,((lt.same q1).same q2).up (Ip _)⟩ .nil) (q1.trans q2)
    | aR b x n p r =>
      refine aY (show decide (V.str (wT b)=V.str "stop")=false by cases b<;>decide) ?_;exists _,rfl,ea,_,0,_,rfl,rfl,au.of he,cg,rfl,_,rfl;refine aY (show decide (V.str (wT b)=V.str "go")=false by cases b<;>decide) ?_;refine⟨(by show 0<=sizeLine;decide),λ fl hfl=>?_⟩;have s1:=ah.new (o:=.lst []) hfl;have hfl1:(upd H fl (.lst [])) fl=some (.lst []):=af;generalize (upd H fl (.lst []))=H1 at s1 hfl1;refine⟨ln2,λ sl hsl=>⟨sl,rfl,⟨_,aT.of af⟩,?_⟩⟩;have s2:=ah.new (o:=.lst [.bl true,.bl false]) hsl;have hsl2:(upd H1 sl (.lst [.bl true,.bl false])) sl=some (.lst [.bl true,.bl false]):=af;have nsl:sl≠fl:=(aQ hfl1 hsl).symm;have hfl2:=s2 _ _ hfl1;generalize (upd H1 sl (.lst [.bl true,.bl false]))=H2 at s2 hsl2 hfl2;refine AG (K:=K) (a:=sl) (xs:=[.bl true,.bl false]) (λ i Hh H'=>∃(u1 u2:Option V) (vs:List V),Hh=[some (.ref d),some (.ref ea),some (.ref fl),u1,u2]/\H' fl=some (.lst vs)/\H' sl=some (.lst [.bl true,.bl false])/\i7 (m+1) H' vs ((([true,false]:List Bool).take i).filterMap λ side=>(cW T b x n side).map λ s=>((some side,(if side=true then p else r),b8 T x s):Ld))/\vs.length<=i/\ah H H') ?_ ?_ ?_ ?_
      . exact⟨_,_,[],rfl,hfl2,hsl2,.nil,Hn _,s1.trans s2⟩
      . rintro i Hh H3 hi ⟨u1,u2,vs,rfl,h1,h2,tv,hvl,s3⟩
        exact aT.of h2
      . rintro i y Hh H3 hi ⟨u1,u2,vs,rfl,h1,h2,tv,hvl,s3⟩
        obtain⟨side,rfl,hsd,hi2⟩:∃side:Bool,y=.bl side/\([true,false]:List Bool)[i]?=some side/\i<2:=by
          match i,hi with
          | 0,hi=>cases hi;exact⟨true,rfl,rfl,by omega⟩
          | 1,hi=>cases hi;exact⟨false,rfl,rfl,by omega⟩
          | i+2,hi=>simp at hi
        have hnext:=yG (T:=T) (b:=b) (x:=x) (n:=n) (p:=p) (r:=r) hsd;have he3:=s3 _ _ he;have lt3:=lt.same s3;obtain⟨kvs,ks,hd3,tb3,cl3,hl3⟩:=id lt3;refine cb ?_;exists λ σ' H'=>∃v:V,σ' = [some (.ref d),some (.ref ea),some (.ref fl),some (.bl side),some v]/\RV H' v (cW T b x n side)/\ah H3 H',?_
        . refine⟨_,rfl,d,rfl,.inl ⟨kvs,.inl hd3⟩,_,rfl,ea,_,1,_,rfl,rfl,au.of he3,cB,ln2,λ t nt=>?_⟩
          have s4:=ah.new (o:=.tup [.aZ,.aZ]) nt;obtain⟨v,ev,sv⟩:=LT.get (tb3.aM λ p xs e=>ah.new (o:=.tup [.aZ,.aZ]) nt _ _ e) cl3 af x;obtain⟨sq,rfl,hsq⟩:=id sv;exists _,_,dQ.k (k:=Sum.inr x) (s4 _ _ hd3),ev;refine⟨_,rfl,ea,_,0,_,rfl,rfl,au.of (s4 _ _ he3),cg,_,rfl,ea,_,2,_,rfl,rfl,au.of (s4 _ _ he3),at2,_,rfl,sq,b,n,side,_,_,rfl,hsq,le x,λ v H5 r5 s5=>?_⟩;exact⟨v,rfl,r5,s4.trans s5⟩
        rintro σ' H4 ⟨v,rfl,rv,s4⟩;have h14:=s4 _ _ h1;have h24:=s4 _ _ h2;have tv4:=i7.same s4 tv;exists _,rfl,_,rfl;cases hp:cW T b x n side with
        | none =>
          rw[hp] at rv hnext;cases (show v=V.aZ from rv);refine br ?_;refine⟨_,_,vs,rfl,h14,h24,?_,JW hvl,s3.trans s4⟩;rw[hnext];simpa using tv4
        | some sx =>
          rw[hp] at rv hnext;have shv:SH H4 v sx:=by
            obtain⟨a1,b1⟩:=sx;obtain⟨yp,e,h⟩:=rv;exact⟨yp,e,h⟩
          obtain⟨yp,rfl,hyp⟩:=id shv;refine bf ?_;have he4:=s4 _ _ he3;have hat:eY (bR (.aR b x n p r)) (4-(if side=true then 1 else 0))=some (V.int ((if side=true then p else r:Nat):Nat)):=by
            cases side
            . exact bH (j:=4) rfl
            . exact bH (j:=3) rfl
          refine⟨_,rfl,.inl ⟨rfl,_,aT.of h14⟩,_,rfl,_,rfl,_,rfl,.inr ⟨_,rfl,_,_,rfl,rfl,ea,_,_,_,rfl,rfl,au.of he4,hat,?_⟩⟩;refine⟨_,rfl,_,rfl,ea,_,1,_,rfl,rfl,au.of he4,cB,_,rfl,d,T,m,x,.ref yp,sx,rfl,lt3.same s4,⋯,shv,λ d' H5 lt5 s5=>⟨sG,λ t nt=>?_⟩⟩;have s6:=ah.new (o:=.tup [.bl side,.int ((if side=true then p else r:Nat):Nat),.ref d']) nt;have h16:=s6 _ _ (s5 _ _ h14);exists fl,vs,_,rfl,rfl,h16,bB ⋯;refine⟨_,_,vs++[.ref t],rfl,af,by rw[av nsl];exact s6 _ _ (s5 _ _ h24),?_,(by rw[Ht];show _+1<=_;omega),((s3.trans s4).trans (s5.trans s6)).put hfl⟩;rw[hnext];refine dY (i7.put h16 (i7.same s6 (i7.same s5 tv4))) (.cons ⟨t,d',rfl,?_,(lt5.same s6).put h16⟩ .nil);have ht:(upd H5 t (.tup [.bl side,.int ((if side=true then p else r:Nat):Nat),.ref d'])) t=some (.tup [.bl side,.int ((if side=true then p else r:Nat):Nat),.ref d']):=af;rw[av (bP ht h16 (by intro z;cases z))];exact ht
      . rintro Hh H3 ⟨u1,u2,vs,rfl,h1,h2,tv,hvl,s3⟩
        exact⟨_,rfl,q fl vs H3 h1 tv s3⟩
theorem nB {f:Addr} {fd:FuncData} (F:b4 K "_law_piece_holds" "_law_piece_holds" gC f fd) (Z:Bl mg) (wS:Own P w K mg base "_law_leads" 3 ["facts", "end"] tR) (xz:Own P w K mg base "_law_behind" 2 ["facts", "deeds"] xG) (bi:Own P w K mg base "_law_table_of" 1 ["facts"] lG) (xL:Own P w K mg base "_law_covers" 1 ["one", "other"] tQ):bA P w K mg base bY 4 f fd ["plan", "other", "paper", "number"] mi:=by
  refine F.ok (k:=3) bT (λ vs H Q E h=>?_) (λ cdv A outer s H vs Q E hr h=>?_)
  . obtain⟨plv,qlv,pa,ps,qs,us,paper,xs,m,k,rfl,_⟩:=h
    rfl
  . obtain⟨plv,qlv,pa,ps,qs,us,paper,xs,m,k,rfl,hp,hq,hpa,hpp,pok,qin,layq,nok,ic,hx,hk,hlen,hall,q⟩:=h
    refine⟨_,(ai (cA (aH aL (pv 2) (pv 3) (λ _ _=>rfl)) (bX rfl (aJ (ay (i:=4) bT.nd rfl (Hj rfl)) (aJ (ay (i:=5) bT.nd rfl (Hj rfl)) bN))))
      (ai (cA (aH aL (pv 0) (pv 4) (λ _ _=>rfl)) (bX rfl (aJ (ay (i:=6) bT.nd rfl (Hj rfl)) (aJ (ay (i:=7) bT.nd rfl (Hj rfl)) bN))))
      (ai (cA (aH aL (pv 1) (pv 3) (λ _ _=>rfl)) (bX rfl (aJ (ay (i:=8) bT.nd rfl (Hj rfl)) (aJ (ay (i:=9) bT.nd rfl (Hz rfl)) bN))))
      (ai (aN (i:=10) bT.nd rfl (Hj rfl) (aw wS (hr.mono ⋯) rfl (aa (aw xz (hr.mono ⋯) rfl (aa (aw bi (hr.mono ⋯) rfl (aa (pv 5) ae)) (aa (pv 6) ae))) (aa (pv 7) ae))))
      (ai (aS (aB (pR hr.units) (pv 8) (pv 6) (aG _))
      (ar (aF cM))
      aK)
      (ai (aS (PW.pt (fO (aB bC (aH aL (pv 7) ao (λ _ _=>rfl)) bG (aG _)) (ff (aB bC (aH aL (pv 9) ao (λ _ _=>rfl)) bG (aG _)))))
      (ar (aF (dP bC (aH aL (pv 7) ao (λ _ _=>rfl)) (aH aL (pv 9) ao (λ _ _=>rfl)) (aG _))))
      aK)
      (ai (cY (aS (aB bC (aH aL (pv 9) ao (λ _ _=>rfl)) bG (aG _))
      (ai (jw (i:=11) ["one"] ["there"] [9] rfl bT.nd rfl rfl rfl (jc (pv 10)) rfl ⋯ ⋯ ⋯ ⟨⟨rfl,.inl rfl,rfl⟩,True.intro⟩ (λ _ _ _ _=>(ay (i:=0) (show ((["one"]:List Str)++(["there"]:List Str)).Nodup by decide) rfl (Hj rfl) (hf:=Hz rfl))) (λ _ _ _ _=>dG) (λ _ _ _ _=>(aH (kO (K:=K) rfl) (pv 1) ao (λ _ _=>rfl))))
      (ar (aS (aB jT (aP aO rfl Z.len bM (aa (pv 10) ae)) ao (aG _))
      (ar (aF cM))
      aK)))
      (ai (aS (aB (pR hr.units) (fV gX (pv 9) gU (gW ao)) (fV gX (pv 7) gU (gW ao)) (aG _))
      (ar (aF cM))
      aK)
      (ar (jw (i:=11) ["one"] ["there"] [9] rfl bT.nd rfl rfl rfl (jc (pv 10)) rfl ⋯ ⋯ ⋯ ⟨⟨rfl,.inl rfl,rfl⟩,True.intro⟩ (λ _ _ _ _=>(ay (i:=0) (show ((["one"]:List Str)++(["there"]:List Str)).Nodup by decide) rfl (Hj rfl) (hf:=Hz rfl))) (λ _ _ _ _=>dG) (λ _ _ _ _=>(aH (kO (K:=K) rfl) (pv 1) (bh eM ao (bw fU rfl Z.int ju (aa (aH (kO (K:=K) rfl) (pv 0) ao (λ _ _=>rfl)) ae))) (λ _ _=>rfl))))))))
      (ai (dJ PassesOwn.never rfl (DX rfl Z.zip (aa (pv 11) (aa (pv 10) ae))) (bX rfl (aJ (ay (i:=12) bT.nd rfl (Hj rfl)) (aJ (ay (i:=13) bT.nd rfl (Hj rfl)) bN)))
      (ar (aS (PW.pt (fO (aB jT (aH aL (aH aL (pv 2) (pv 12) (λ _ _=>rfl)) ao (λ _ _=>rfl)) (aH aL (pv 13) ao (λ _ _=>rfl)) (aG _)) (ff (fS (eI (aw xL (hr.mono ⋯) rfl (aa (aw bi (hr.mono ⋯) rfl (aa (aH aL (aH aL (pv 2) (pv 12) (λ _ _=>rfl)) ao (λ _ _=>rfl)) ae)) (aa (aH aL (pv 13) ao (λ _ _=>rfl)) ae))))))))
      (ar (aF cM))
      aK)))
      (ar (aF cM)))))))))),?_⟩
    obtain⟨pp,vs,rfl,e1,rvs⟩:=bg.bQ hp;obtain⟨qp,ws,rfl,e1q,rws⟩:=bg.bQ hq;have hkp:k<paper.length:=by omega
    have hck:paper[k]?=some paper[k]:=by simp[hkp]
    have hcm:=Ik hkp;generalize paper[k]=c at hck hcm;have hcin:=hall c hcm;have tokc:=ic c hcm;obtain⟨ov,hov,oq,ou,rfl,hoq,hou⟩:=fJ hpp hck;have hpl:c.1.toNat<ps.length:=by omega
    have hpi:ps[c.1.toNat]?=some ps[c.1.toNat]:=by simp[hpl]
    generalize ps[c.1.toNat]=ppc at hpi;obtain⟨ds,e⟩:=ppc;have hqi:qs[k]?=some qs[k]:=by simp[hk]
    generalize qs[k]=qpc at hqi;obtain⟨ds',f⟩:=qpc;obtain⟨p',xs',pc,da,ea,wsd,ep,e1',el',hxp,e2,e3,r3,e4⟩:=fE hp hpi;cases ep;rw[e1] at e1';cases e1';obtain⟨p',xs',qc,da',ea',wsd',ep,e1',el',hxq,e2q,e3q,r3q,e4q⟩:=fE hq hqi;cases ep;rw[e1q] at e1';cases e1';have hmp:=Hy hpi;have hmq:=Hy hqi;have layp:=iA nok pok;have dok:=(pok.eX _ hmp).2;have finB:∀b H',(b=true↔(ds=ds'/\fm paper (aW c.2 ds) e f))->ah H H'->Q (.bl b) H':=λ b H' hb s=>q b H' (hb.trans ⟨λ h c' p q h1 h2 h3=>by
      rw[hck] at h1;cases h1;rw[hpi] at h2;cases h2;rw[hqi] at h3;cases h3;exact h,λ h=>h c _ _ hck hpi hqi⟩) s
    clear q;exists _,rfl,_,rfl,pa,_,_,_,rfl,rfl,au.of hpa,bH hov,oq,_,rfl,au.of hoq,rfl,_,_,rfl,_,_,rfl,rfl;exists _,rfl,_,rfl,pp,_,_,_,rfl,rfl,au.of e1,(show eY vs c.1=some (V.ref pc) by rw[show c.1=((c.1.toNat:Nat):Int) by omega];exact bH hxp),pc,_,rfl,au.of e2,rfl,_,_,rfl,_,_,rfl,rfl;exists _,rfl,_,rfl,qp,_,_,_,rfl,rfl,au.of e1q,bH hxq,qc,_,rfl,au.of e2q,rfl,_,_,rfl,_,_,rfl,rfl;refine⟨_,rfl,ou,c.2,xs.length,rfl,hou,tokc.bV,⋯,λ d1 H1 nd1 lt1 s1=>?_⟩;refine⟨_,rfl,d1,da,c.2,xs.length,wsd,ds,xs,rfl,lt1,s1 _ _ e3,r3.same s1 (bE ds),⋯,rfl,tokc,dok,λ d2 H2 lt2 s2=>?_⟩;have s12:=s1.trans s2;have tokb:=tokc.pA dok;refine⟨_,rfl,d2,ea,aW c.2 ds,e,xs.length,rfl,lt2,⋯,tokb.le,s12 _ _ e4,λ fl lvs H4 hfl4 hts4 s3=>?_⟩;have s4:=s12.trans s3;have hlvl:lvs.length=(di (aW c.2 ds) e).length:=dZ hts4;have hl2:=An (T:=aW c.2 ds) (e:=e);have hea4:=s4 _ _ e4;have hea4':=s4 _ _ e4q;have k1:=ie (layp _ hmp).1;have k2:=ie (layq _ hmq).1;exists _,rfl,_,rfl,.tuple (ds'.map bI),.tuple (ds.map bI),.tup (s4 _ _ e3q) (r3q.same s4 (bE ds')),.tup (s4 _ _ e3) (r3.same s4 (bE ds)),k2.lay,k1.lay,(Hu (JO _ _) (Hu k2.dep ⋯)),_,rfl;by_cases hd:ds=ds'
    case neg =>
      refine bJ (by show (!PyData.eqv _ _)=true;rw[gO k2 k1,decide_eq_false λ z=>hd (lH.mp z).symm];rfl) ?_;exact finB false H4 ⟨(λ h=>nomatch h),λ h=>absurd h.1 hd⟩ s4
    refine aY (by show (!PyData.eqv _ _)=false;rw[gO k2 k1,decide_eq_true (lH.mpr hd.symm)];rfl) ?_;have finE:∀b H',(b=true↔fm paper (aW c.2 ds) e f)->ah H4 H'->Q (.bl b) H':=λ b H' hb s=>finB b H' (hb.trans ⟨λ h=>⟨hd,h⟩,λ h=>h.2⟩) (s4.trans s)
    clear finB k1 k2;have stops:(e=.stop\/f=.stop)->Q (.bl (decide (V.str (wE e)=V.str (wE f)))) H4:=λ h=>finE _ H4 ((decide_eq_true_iff).trans ⟨λ z=>(qH h).mpr (by injection z),λ z=>by rw[(qH h).mp z]⟩) (ah.refl H4)
    exists _,rfl,ea,_,0,_,rfl,rfl,au.of hea4,fZ e,rfl,_,rfl;by_cases hes:e=.stop
    . refine bJ (by rw[hes];exact decide_eq_true rfl) (bf ?_)
      exact⟨_,rfl,ea,_,0,_,rfl,rfl,au.of hea4,fZ e,_,rfl,ea',_,0,_,rfl,rfl,au.of hea4',fZ f,rfl,stops (.inl hes)⟩
    refine aY (by
      cases e with
      | stop=>exact absurd rfl hes
      | go p=>exact (show decide (V.str "go" = V.str "stop")=false by decide)
      | aR b x n p r=>exact (show decide (V.str (wT b)=V.str "stop")=false by cases b<;>decide)) ?_
    exists _,rfl,ea',_,0,_,rfl,rfl,au.of hea4',fZ f,rfl,_,rfl;by_cases hfs:f=.stop
    . refine bJ (by rw[hfs];exact decide_eq_true rfl) ?_
      exact⟨_,rfl,ea,_,0,_,rfl,rfl,au.of hea4,fZ e,_,rfl,ea',_,0,_,rfl,rfl,au.of hea4',fZ f,rfl,stops (.inr hfs)⟩
    refine aY (by
      cases f with
      | stop=>exact absurd rfl hfs
      | go p=>exact (show decide (V.str "go" = V.str "stop")=false by decide)
      | aR b x n p r=>exact (show decide (V.str (wT b)=V.str "stop")=false by cases b<;>decide)) ?_
    clear stops;exists λ σ' H'=>∃(pl:Addr),σ' = [some (.ref pp),some (.ref qp),some (.ref pa),some (.int (k:Nat)),some (.int c.1),some ou,some (.ref da),some (.ref ea),some (.ref da'),some (.ref ea'),some (.ref fl),some (.ref pl),none,none]/\H' pl=some (.lst (vN ((di (aW c.2 ds) e).map (cR f))))/\(fm paper (aW c.2 ds) e f↔Ce paper (aW c.2 ds) e f)/\ah H4 H',?_
    . exists _,rfl,ea',_,0,_,rfl,rfl,au.of hea4',fZ f,rfl,_,rfl
      cases f with
      | stop=>exact absurd rfl hfs
      | go r =>
        refine bJ (decide_eq_true rfl) ?_;refine⟨_,rfl,fl,rfl,⟨_,aT.of hfl4⟩,λ acc na=>?_⟩;refine ky (K:=K) (a:=fl) (xs:=lvs) (λ i ys Hi H'=>∃(c1:Option V),Hi=[c1,some (.ref ea')]/\H' acc=some (.lst ys)/\ys=vN (((di (aW c.2 ds) e).take i).map (cR (.go r)))/\ah H4 H') ?_ ?_ ?_ ?_
        . exact⟨none,rfl,af,rfl,ah.new na⟩
        . rintro i ys Hi H' hi ⟨c1,rfl,ha,rfl,sa⟩
          refine⟨aT.of (sa _ _ hfl4),ha,bB ?_⟩;unfold vN;rw[Hk,Hk,HP];omega
        . rintro i y ys Hi H' hi ⟨c1,rfl,ha,rfl,sa⟩
          obtain⟨l,hl,lq,ld_,rfl,hlq,hld⟩:=L2.en hts4 hi;have hx4:=sa _ _ hea4';refine cb ?_;refine gy ?_;refine bf ?_;have fin:H' acc=some (.lst (vN (((di (aW c.2 ds) e).take i).map (cR (.go r)))))/\∃c1',[some (V.ref lq),some (.ref ea')]=[c1',some (.ref ea')]/\(upd H' acc (.lst (vN (((di (aW c.2 ds) e).take i).map (cR (.go r)))++[V.int ((cR (.go r) l:Nat):Int)]))) acc=some (.lst (vN (((di (aW c.2 ds) e).take i).map (cR (.go r)))++[V.int ((cR (.go r) l:Nat):Int)]))/\vN (((di (aW c.2 ds) e).take i).map (cR (.go r)))++[V.int ((cR (.go r) l:Nat):Int)]=vN (((di (aW c.2 ds) e).take (i+1)).map (cR (.go r)))/\ah H4 (upd H' acc (.lst (vN (((di (aW c.2 ds) e).take i).map (cR (.go r)))++[V.int ((cR (.go r) l:Nat):Int)]))):=by
            refine⟨ha,_,rfl,af,?_,sa.put na⟩;rw[take1 hl,HA];unfold vN;rw[HA];rfl
          exact⟨_,rfl,ea',_,1,_,rfl,rfl,au.of hx4,cB,fin⟩
        rintro ys Hi H5 ⟨c1,rfl,ha,rfl,s5⟩;rw[hlvl,HW] at ha;exists _,rfl,fl,_,rfl,.inl (aT.of (s5 _ _ hfl4)),rfl,_,rfl;have eg:=Cf (paper:=paper) (T:=aW c.2 ds) (r:=r) hes;by_cases h1:lvs.length=1
        . refine aY (by rw[h1];rfl) ?_
          exact⟨acc,rfl,ha,eg.trans ⟨λ h=>h.2,λ h=>⟨by omega,h⟩⟩,s5⟩
        . refine bJ (by rw[decide_eq_false λ z=>h1 (by injection z with z;omega)];rfl) ?_
          exact finE false H5 ⟨(λ h=>nomatch h),λ h=>absurd (eg.mp h).1 ⋯⟩ s5
      | aR b' x' n' p' q' =>
        refine aY (show decide (V.str (wT b')=V.str "go")=false by cases b'<;>decide) ?_;refine⟨_,rfl,3,rfl,ea',_,rfl,au.of hea4',λ hw'=>absurd hw'.2 (by show ¬HT.bU 5 5 (some 3)=5;decide),λ _ p1 np1=>?_⟩;have q1:=ah.new (o:=.tup (cm (bR (.aR b' x' n' p' q')) none (some 3))) np1;have hp1:(upd H4 p1 (.tup (cm (bR (.aR b' x' n' p' q')) none (some 3)))) p1=some (.tup (cm (bR (.aR b' x' n' p' q')) none (some 3))):=af
        try change (_:Hp->Prop) (upd H4 p1 (.tup (cm (bR (.aR b' x' n' p' q')) none (some 3))))
        generalize (upd H4 p1 (.tup (cm (bR (.aR b' x' n' p' q')) none (some 3))))=H5 at q1 hp1 ⊢;have kf:=jZ (e:=.aR b' x' n' p' q') (layq _ hmq).2;cases e with
        | stop=>exact absurd rfl hes
        | go p0 =>
          refine⟨_,rfl,3,rfl,ea,_,rfl,au.of (q1 _ _ hea4),λ _=>?_,λ hw'=>absurd (show _/\_ from ⟨by show HT.bU 2 0 none=0;decide,by show HT.bU 2 2 (some 3)=2;decide⟩) hw'⟩;have kg:=DY p0;exists .tuple (j0 (.aR b' x' n' p' q')),.tuple [.str "go",.int (p0:Nat)],.tup hp1 (vJ _),.tup (q1 _ _ hea4) (.cons (.str _) (.cons (.int _) .nil)),kf.lay,kg.lay,(Hu (JO _ _) (Hu kf.dep ⋯)),_,rfl;refine bJ (by show (!PyData.eqv (.tuple (bO (.aR b' x' n' p' q'))) _)=true;rw[gO kf kg,decide_eq_false λ z=>by injection z with z;injection z with _ z;injection z with _ z;cases z];rfl) ?_;exact finE false H5 ⟨(λ h=>nomatch h),λ h=>h.elim⟩ q1
        | aR b x n p r =>
          refine⟨_,rfl,3,rfl,ea,_,rfl,au.of (q1 _ _ hea4),λ hw'=>absurd hw'.2 (by show ¬HT.bU 5 5 (some 3)=5;decide),λ _ p2 np2=>?_⟩;have q2:=ah.new (o:=.tup (cm (bR (.aR b x n p r)) none (some 3))) np2;have hp2:(upd H5 p2 (.tup (cm (bR (.aR b x n p r)) none (some 3)))) p2=some (.tup (cm (bR (.aR b x n p r)) none (some 3))):=af
          try change (_:Hp->Prop) (upd H5 p2 (.tup (cm (bR (.aR b x n p r)) none (some 3))))
          generalize (upd H5 p2 (.tup (cm (bR (.aR b x n p r)) none (some 3))))=H6 at q2 hp2 ⊢;have ke:=jZ (e:=.aR b x n p r) (layp _ hmp).2;exists .tuple (j0 (.aR b' x' n' p' q')),.tuple (j0 (.aR b x n p r)),.tup (q2 _ _ hp1) (vJ _),.tup hp2 (vJ _),kf.lay,ke.lay,(Hu (JO _ _) (Hu kf.dep ⋯)),_,rfl;by_cases ht:j0 (.aR b' x' n' p' q')=j0 (.aR b x n p r)
          case neg =>
            refine bJ (by show (!PyData.eqv (.tuple (bO (.aR b' x' n' p' q'))) (.tuple (bO (.aR b x n p r))))=true;rw[gO kf ke,decide_eq_false λ z=>ht (by injection z)];rfl) ?_;exact finE false H6 ⟨(λ h=>nomatch h),λ h=>absurd (xI.mpr ⟨p,r,by obtain⟨⟨g1,g2,g3⟩,_⟩:=h;rw[g1,g2,g3]⟩) ht⟩ (q1.trans q2)
          refine aY (by show (!PyData.eqv (.tuple (bO (.aR b' x' n' p' q'))) (.tuple (bO (.aR b x n p r))))=false;rw[gO kf ke,decide_eq_true (by rw[show bO (.aR b' x' n' p' q')=bO (.aR b x n p r) from ht])];rfl) ?_;obtain⟨rfl,rfl,rfl⟩:b' = b/\x' = x/\n' = n:=by
            obtain⟨p0,r0,ee⟩:=xI.mp ht;injection ee with g1 g2 g3
            exact⟨g1.symm,g2.symm,g3.symm⟩
          have s46:=q1.trans q2;have hea46:=s46 _ _ hea4';have hfl46:=s46 _ _ hfl4;have hts46:=i7.same s46 hts4;refine⟨_,rfl,fl,rfl,⟨_,aT.of hfl46⟩,λ acc na=>?_⟩;refine ky (K:=K) (a:=fl) (xs:=lvs) (λ i ys Hi H'=>∃(c1:Option V),Hi=[c1,some (.ref ea')]/\H' acc=some (.lst ys)/\ys=vN (((di (aW c.2 ds) (.aR b' x' n' p r)).take i).map (cR (.aR b' x' n' p' q')))/\ah H6 H') ?_ ?_ ?_ ?_
          . exact⟨none,rfl,af,rfl,ah.new na⟩
          . rintro i ys Hi H' hi ⟨c1,rfl,ha,rfl,sa⟩
            refine⟨aT.of (sa _ _ hfl46),ha,bB ?_⟩;unfold vN;rw[Hk,Hk,HP];omega
          . rintro i y ys Hi H' hi ⟨c1,rfl,ha,rfl,sa⟩
            obtain⟨l,hl,lq,ld_,rfl,hlq,hld⟩:=L2.en hts46 hi;have hx4:=sa _ _ hea46;refine cb ?_;refine gy ?_;refine bf ?_;have fin:H' acc=some (.lst (vN (((di (aW c.2 ds) (.aR b' x' n' p r)).take i).map (cR (.aR b' x' n' p' q')))))/\∃c1',[some (V.ref lq),some (.ref ea')]=[c1',some (.ref ea')]/\(upd H' acc (.lst (vN (((di (aW c.2 ds) (.aR b' x' n' p r)).take i).map (cR (.aR b' x' n' p' q')))++[V.int ((cR (.aR b' x' n' p' q') l:Nat):Int)]))) acc=some (.lst (vN (((di (aW c.2 ds) (.aR b' x' n' p r)).take i).map (cR (.aR b' x' n' p' q')))++[V.int ((cR (.aR b' x' n' p' q') l:Nat):Int)]))/\vN (((di (aW c.2 ds) (.aR b' x' n' p r)).take i).map (cR (.aR b' x' n' p' q')))++[V.int ((cR (.aR b' x' n' p' q') l:Nat):Int)]=vN (((di (aW c.2 ds) (.aR b' x' n' p r)).take (i+1)).map (cR (.aR b' x' n' p' q')))/\ah H6 (upd H' acc (.lst (vN (((di (aW c.2 ds) (.aR b' x' n' p r)).take i).map (cR (.aR b' x' n' p' q')))++[V.int ((cR (.aR b' x' n' p' q') l:Nat):Int)]))):=by
              refine⟨ha,_,rfl,af,?_,sa.put na⟩;rw[take1 hl,HA];unfold vN;rw[HA];rfl
            obtain⟨side,hside⟩:=yH (Hy hl);have hat:eY (bR (.aR b' x' n' p' q')) (4-(if side=true then 1 else 0))=some (V.int ((cR (.aR b' x' n' p' q') l:Nat):Int)):=by
              show _=some (V.int (((if l.1=some true then p' else q':Nat)):Int));rw[hside];cases side
              . rw[if_neg (by intro z;cases z)];exact bH (j:=4) rfl
              . rw[if_pos rfl];exact bH (j:=3) rfl
            rw[hside] at hlq;refine⟨_,rfl,_,rfl,lq,_,0,_,rfl,rfl,au.of (sa _ _ hlq),cg,.inr ⟨side,rfl,_,_,rfl,rfl,ea',_,_,_,rfl,rfl,au.of hx4,hat,fin⟩⟩
          rintro ys Hi H7 ⟨c1,rfl,ha,rfl,s5⟩;rw[hlvl,HW] at ha;exact⟨acc,rfl,ha,Ao,s46.trans s5⟩
    rintro σ' H5 ⟨pl,rfl,hpl5,hEL,s5⟩;have hts5:=i7.same s5 hts4;have hfl5:=s5 _ _ hfl4;exists _,rfl,_,rfl,pl,fl,rfl,⟨_,aT.of hpl5⟩,⟨_,aT.of hfl5⟩;refine Cd (K:=K) (a:=pl) (b:=fl) (xs:=vN ((di (aW c.2 ds) e).map (cR f))) (ys:=lvs) (by unfold vN;rw[Hk,Hk,hlvl];exact Hn _) (λ i Hh H'=>∃(u1 u2:Option V),Hh=[some (.ref pp),some (.ref qp),some (.ref pa),some (.int (k:Nat)),some (.int c.1),some ou,some (.ref da),some (.ref ea),some (.ref da'),some (.ref ea'),some (.ref fl),some (.ref pl),u1,u2]/\(∀(j:Nat) (l:Ld),j<i->(di (aW c.2 ds) e)[j]?=some l->Mt paper (cR f l) l.2.1 l.2.2)/\ah H5 H') ?_ ?_ ?_ ?_
    . exact⟨_,_,rfl,(λ j l h=>absurd h (Jc _)),ah.refl _⟩
    . rintro i Hh H6 hi ⟨u1,u2,rfl,hm,s6⟩
      exact⟨aT.of (s6 _ _ hpl5),aT.of (s6 _ _ hfl5)⟩
    . rintro i x y Hh H6 t hx1 hy ht ⟨u1,u2,rfl,hm,s6⟩
      obtain⟨l,hl,lq,ld_,rfl,hlq,hld⟩:=L2.en hts5 hy;have hxe:x=V.int ((cR f l:Nat):Int):=by
        unfold vN at hx1;rw[HC,HC,hl] at hx1;exact (HB.inj hx1).symm
      subst hxe;have hal:cR f l<paper.length:=by rw[hlen];exact Fi qin hmq hfs
      have hca:paper[cR f l]?=some paper[cR f l]:=by simp[hal]
      have hcm':=Ik hal;generalize paper[cR f l]=c' at hca hcm';obtain⟨ov',hov',oq',ou',rfl,hoq',hou'⟩:=fJ hpp hca;have s7:=ah.new (o:=.tup [.int ((cR f l:Nat):Int),.ref lq]) ht;exists t,_,rfl,au.of af,rfl,_,_,rfl,_,_,rfl,rfl;generalize (upd H6 t (.tup [.int ((cR f l:Nat):Int),.ref lq]))=H7 at s7 ⊢;have s57:=s6.trans s7;have s07:=s4.trans (s5.trans s57);have hlq7:=s57 _ _ hlq;have hpa7:=s07 _ _ hpa;have hoq7:=s07 _ _ hoq';have finF:∀H',ah H5 H'->¬Mt paper (cR f l) l.2.1 l.2.2->Q (.bl false) H':=λ H' s hn=>finE false H' ⟨(λ h=>nomatch h),λ h=>absurd (hEL.mp h l (Hy hl)) hn⟩ (s5.trans s)
      exists _,rfl,_,rfl,pa,_,_,_,rfl,rfl,au.of hpa7,bH hov',oq',_,0,_,rfl,rfl,au.of hoq7,cg,_,rfl,lq,_,1,_,rfl,rfl,au.of hlq7,cB,rfl,_,rfl;by_cases hc:c'.1=((l.2.1:Nat):Int)
      case neg =>
        refine bJ (by rw[decide_eq_false λ z=>hc (by injection z)];rfl) (bf ?_);exact finF H7 s57 λ ⟨c2,g1,g2,_⟩=>by rw[hca] at g1;cases g1;exact hc g2
      refine aY (by rw[hc,decide_eq_true rfl];rfl) ?_;refine⟨_,rfl,_,rfl,pa,_,_,_,rfl,rfl,au.of hpa7,bH hov',oq',_,1,_,rfl,rfl,au.of hoq7,cB,ou',c'.2,xs.length,rfl,FV.same hou' s07,(ic c' hcm').bV,⋯,λ d8 H8 nd8 lt8 s8=>?_⟩;refine⟨_,rfl,lq,_,2,_,rfl,rfl,au.of (s8 _ _ hlq7),at2,d8,ld_,c'.2,l.2.2,xs.length+1,rfl,lt8.up (Ip _),(hld.same s57).same s8,λ b H9 hb s9=>⟨_,rfl,?_⟩⟩;have s59:=s57.trans (s8.trans s9);cases b with
      | false =>
        refine bf ?_;exact finF H9 s59 λ ⟨c2,g1,_,g2⟩=>by rw[hca] at g1;cases g1;exact absurd (hb.mpr g2) ⋯
      | true =>
        refine br ?_;refine⟨_,_,rfl,λ j l' hj hl'=>?_,s59⟩;by_cases hji:j=i
        . subst hji
          rw[hl] at hl';cases hl';exact⟨c',hca,hc,hb.mp rfl⟩
        . exact hm j l' ⋯ hl'
    . rintro Hh H6 ⟨u1,u2,rfl,hm,s6⟩
      refine finE true H6 ⟨λ _=>hEL.mpr λ l hl=>?_,λ _=>rfl⟩ (s5.trans s6);obtain⟨j,hj⟩:=Jw hl;refine hm j l ?_ hj;unfold vN;rw[Hk,Hk];exact (HD.mp hj).1
theorem nE {f:Addr} {fd:FuncData} (F:b4 K "_law_paper_holds" "_law_paper_holds" gF f fd) (Z:Bl mg) (zn:Own P w K mg base "_law_piece_holds" 4 ["plan", "other", "paper", "number"] mi):bA P w K mg base bY 5 f fd ["plan", "other", "paper"] gd:=by
  refine F.ok (k:=4) dq (λ vs H Q E h=>?_) (λ cdv A outer s H vs Q E hr h=>?_)
  . obtain⟨plv,qlv,pa,ps,qs,us,paper,xs,m,rfl,_⟩:=h
    rfl
  . obtain⟨plv,qlv,pa,ps,qs,us,paper,xs,m,rfl,hp,hq,hpa,hpp,pok,qin,layq,nok,ic,hx,hm12,hp0,hpn,hn0,hn,q⟩:=h
    refine⟨_,(ai (aS (PW.pt (fO (aB jT (aP aO rfl Z.len bM (aa (pv 2) ae)) (aP aO rfl Z.len bM (aa (pv 1) ae)) (aG _)) (ff (aB jT (aH aL (aH aL (pv 2) ao (λ _ _=>rfl)) ao (λ _ _=>rfl)) ao (aG _)))))
      (ar (aF cM))
      aK)
      (ai (dJ PassesOwn.never rfl (d5 (pv 2)) (bX rfl (aJ (ay (i:=3) dq.nd rfl (Hj rfl)) (aJ (ay (i:=4) dq.nd rfl (Hj rfl)) bN)))
      (ar (aS (PW.pt (fO (aB fP (pv 3) ao (aG _)) (ff (aB Cz (pv 3) (aP aO rfl Z.len bM (aa (pv 0) ae)) (aG _)))))
      (ar (aF cM))
      aK)))
      (ai (dJ PassesOwn.never rfl (d5 (aH aL (aH aL (pv 2) ao (λ _ _=>rfl)) ao (λ _ _=>rfl))) (bX rfl (aJ (ay (i:=5) dq.nd rfl (Hj rfl)) (aJ (ay (i:=6) dq.nd rfl (Hj rfl)) bN)))
      (ar (aS (PW.pt (fO (PW.pt (df (cO (cX (aH aL (pv 6) ao (λ _ _=>rfl)))) (cS (aB iJ (aH aL (pv 6) ao (λ _ _=>rfl)) ao (aG _))))) (ff (PW.pt (df (cO (cX (aH aL (pv 6) ao (λ _ _=>rfl)))) (cS (aB fP (aH aL (pv 6) ao (λ _ _=>rfl)) ao (aG _))))))))
      (ar (aF cM))
      aK)))
      (ai (dJ PassesOwn.never rfl (fC rfl Z.range (aa (aP aO rfl Z.len bM (aa (pv 1) ae)) ae)) (ay (i:=7) dq.nd rfl (Hj rfl))
      (ar (aS (fS (eI (aw zn (hr.mono ⋯) rfl (aa (pv 0) (aa (pv 1) (aa (pv 2) (aa (pv 7) ae)))))))
      (ar (aF cM))
      aK)))
      (ar (aF cM)))))),?_⟩
    obtain⟨pp,vs,rfl,e1,rvs⟩:=bg.bQ hp;have hvl:vs.length=ps.length:=by have:=rvs.len;rw[Hk] at this;exact this
    obtain⟨qp,ws,rfl,e1q,rws⟩:=bg.bQ hq;have hwl:ws.length=qs.length:=by have:=rws.len;rw[Hk] at this;exact this
    have hul:=dZ hpp;exists _,rfl,pa,_,rfl,.inr (au.of hpa),_,rfl,qp,_,rfl,.inr (au.of e1q),rfl,_,rfl;by_cases hlen:us.length=ws.length
    case neg =>
      refine bJ (by rw[decide_eq_false λ z=>hlen (by injection z with z;omega)];rfl) (bf ?_);exact q false H ⟨(λ h=>nomatch h),λ h=>absurd h.len ⋯⟩ (ah.refl H)
    refine aY (by rw[hlen,decide_eq_true rfl];rfl) ?_;have hlen':paper.length=qs.length:=by omega
    have hc0:paper[0]?=some paper[0]:=by simp[hn0]
    have hcm0:=Ik hn0;generalize paper[0]=c0 at hc0 hcm0;obtain⟨ov,hov,oq,ou,rfl,hoq,hou⟩:=fJ hpp hc0;exists _,rfl,pa,_,0,_,rfl,rfl,au.of hpa,bH (j:=0) hov,oq,_,0,_,rfl,rfl,au.of hoq,cg,rfl,_,rfl;by_cases hz:c0.1=0
    case neg =>
      refine bJ (by rw[decide_eq_false λ z=>hz (by injection z)];rfl) ?_;refine q false H ⟨(λ h=>nomatch h),λ h=>?_⟩ (ah.refl H);obtain⟨c',h1,h2,_⟩:=h.first
      rw[hc0] at h1;cases h1;exact absurd h2 hz
    refine aY (by rw[hz,decide_eq_true rfl];rfl) ?_;refine⟨_,rfl,pa,rfl,⟨_,au.of hpa⟩,fM (K:=K) (a:=pa) (xs:=us) (λ i Hh H'=>∃(u1 u2:Option V),Hh=[some (.ref pp),some (.ref qp),some (.ref pa),u1,u2,none,none,none]/\(∀(j:Nat) (c:Pp),j<i->paper[j]?=some c->0<=c.1/\c.1<ps.length)/\ah H H') ?_ ?_ ?_ ?_⟩
    . exact⟨_,_,rfl,(λ j l h=>absurd h (Jc _)),ah.refl _⟩
    . rintro i Hh H1 hi ⟨u1,u2,rfl,hm,s1⟩
      exact au.of (s1 _ _ hpa)
    . rintro i y Hh H1 hi ⟨u1,u2,rfl,hm,s1⟩
      obtain⟨c,hc,oq',ou',rfl,hoq',hou'⟩:=L2.en hpp hi;have bad:¬(0<=c.1/\c.1<ps.length)->Q (.bl false) H1:=λ hn=>q false H1 ⟨(λ h=>nomatch h),λ h=>absurd (h.Ge c (Hy hc)) hn⟩ s1
      exists oq',_,rfl,au.of (s1 _ _ hoq'),rfl,_,_,rfl,_,_,rfl,rfl;exists _,rfl,_,_,rfl,rfl,_,rfl;by_cases h0:c.1<0
      . exact bJ (decide_eq_true h0) (bf (bad ⋯))
      refine aY (decide_eq_false h0) ?_;exists _,rfl,_,rfl,pp,_,rfl,.inr (au.of (s1 _ _ e1)),_,_,rfl,rfl,_,rfl;by_cases h1:c.1 >= (vs.length:Nat)
      . exact bJ (decide_eq_true h1) (bad ⋯)
      refine aY (decide_eq_false h1) ?_;refine⟨_,_,rfl,λ j c' hj hc'=>?_,s1⟩;by_cases hji:j=i
      . subst hji
        rw[hc] at hc';cases hc';omega
      . exact hm j c' ⋯ hc'
    rintro Hh H1 ⟨u1,u2,rfl,hm,s1⟩;have hall:∀c∈paper,0<=c.1/\c.1<ps.length:=λ c hc=>by
      obtain⟨j,hj⟩:=Jw hc;exact hm j c (by rw[hul];exact (HD.mp hj).1) hj
    clear hm;obtain⟨fp,fxs,ss,rfl,hfp,srt,hss,rf⟩:=id hou;have hfl:=rf.len;rw[Hk] at hfl;refine⟨_,rfl,pa,_,0,_,rfl,rfl,au.of (s1 _ _ hpa),bH (j:=0) hov,oq,_,1,_,rfl,rfl,au.of (s1 _ _ hoq),cB,fp,rfl,⟨_,au.of (s1 _ _ hfp)⟩,fM (K:=K) (a:=fp) (xs:=fxs) (λ i Hh H'=>∃(u3 u4:Option V),Hh=[some (.ref pp),some (.ref qp),some (.ref pa),u1,u2,u3,u4,none]/\(∀(j:Nat) (x:Str),j<i->ss[j]?=some x->cN 0 (c0.2 x).1 (c0.2 x).2=true)/\ah H1 H') ?_ ?_ ?_ ?_⟩
    . exact⟨_,_,rfl,(λ j l h=>absurd h (Jc _)),ah.refl _⟩
    . rintro i Hh H2 hi ⟨u3,u4,rfl,hm,s2⟩
      exact au.of (s2 _ _ (s1 _ _ hfp))
    . rintro i y Hh H2 hi ⟨u3,u4,rfl,hm,s2⟩
      have hil:i<ss.length:=by have:=(HD.mp hi).1;omega
      have hsi:ss[i]?=some ss[i]:=by simp[hil]
      generalize ss[i]=x at hsi;obtain⟨v,hv,rv⟩:=rf.get (i:=i) (d:=dF c0.2 x) (by rw[HC,hsi];rfl);rw[hi] at hv;cases hv;obtain⟨qa,qvs,rfl,hqa,rq⟩:=bg.bQ rv;obtain⟨y1,t1,rfl,q1,rq⟩:=rq.cons_inv;obtain⟨y2,t2,rfl,q2,rq⟩:=rq.cons_inv;have z:=rq.nil_inv;subst z;have ey1:=q1.str_inv;subst ey1;have s02:=s1.trans s2;obtain⟨sp,rfl,hsp⟩:=vD q2;have hsp:=s02 _ _ hsp;exists qa,_,rfl,au.of (s02 _ _ hqa),rfl,_,_,rfl,_,_,rfl,rfl;have bad:cN 0 (c0.2 x).1 (c0.2 x).2=false->Q (.bl false) H2:=λ hn=>q false H2 ⟨(λ h=>nomatch h),λ h=>by
        obtain⟨c',g1,g2,g3⟩:=h.first
        rw[hc0] at g1;cases g1;rw[g3 x] at hn;cases hn⟩ s02
      have good:cN 0 (c0.2 x).1 (c0.2 x).2=true->∀(j:Nat) (x:Str),j<i+1->ss[j]?=some x->cN 0 (c0.2 x).1 (c0.2 x).2=true:=λ hg j x' hj hx'=>by
        by_cases hji:j=i
        . subst hji
          rw[hsi] at hx';cases hx';exact hg
        . exact hm j x' ⋯ hx'
      generalize c0.2 x=st at hsp bad good;obtain⟨lo,hi⟩:=st;exists _,rfl,sp,_,0,_,rfl,rfl,au.of hsp,cg,_,rfl;cases lo with
      | none =>
        refine aY rfl (br ?_);exists _,rfl,sp,_,1,_,rfl,rfl,au.of hsp,cB,_,rfl;cases hi with
        | none =>
          refine aY rfl (br ?_);exact⟨_,_,rfl,good (by rfl),s2⟩
        | some h =>
          refine bJ rfl ?_;exists _,rfl,sp,_,1,_,rfl,rfl,au.of hsp,cB,_,_,rfl,rfl,_,rfl;by_cases hh:h<0
          . exact bJ (decide_eq_true hh) (bad (by unfold cN;simp;omega))
          . refine aY (decide_eq_false hh) ?_
            exact⟨_,_,rfl,good (by unfold cN;simp;omega),s2⟩
      | some l =>
        refine bJ rfl ?_;exists _,rfl,sp,_,0,_,rfl,rfl,au.of hsp,cg,_,_,rfl,rfl,_,rfl;by_cases hlo:0<l
        . exact bJ (decide_eq_true hlo) (bf (bad (by unfold cN;simp;omega)))
        refine aY (decide_eq_false hlo) ?_;exists _,rfl,sp,_,1,_,rfl,rfl,au.of hsp,cB,_,rfl;cases hi with
        | none =>
          refine aY rfl (br ?_);exact⟨_,_,rfl,good (by unfold cN;simp;omega),s2⟩
        | some h =>
          refine bJ rfl ?_;exists _,rfl,sp,_,1,_,rfl,rfl,au.of hsp,cB,_,_,rfl,rfl,_,rfl;by_cases hh:h<0
          . exact bJ (decide_eq_true hh) (bad (by unfold cN;simp;omega))
          . refine aY (decide_eq_false hh) ?_
            exact⟨_,_,rfl,good (by unfold cN;simp;omega),s2⟩
    rintro Hh H2 ⟨u3,u4,rfl,hm,s2⟩;have hsnd:Sound c0.2 (λ _=>0):=λ x=>by
      by_cases hx':x∈ss
      . obtain⟨j,hj⟩:=Jw hx'
        exact hm j x (by rw[hfl];exact (HD.mp hj).1) hj
      . have:c0.2 x=cF:=Classical.byContradiction λ z=>hx' ((hss x).mpr z)
        rw[this];rfl
    clear hm;have s02:=s1.trans s2;refine⟨_,rfl,qp,_,rfl,.inr (au.of (s02 _ _ e1q)),_,rfl,⋯,⋯,jS (lo:=0) (λ i Hh H'=>∃(u5:Option V),Hh=[some (.ref pp),some (.ref qp),some (.ref pa),u1,u2,u3,u4,u5]/\(∀(k:Nat) (c:Pp) (p q:Piece),k<i->paper[k]?=some c->ps[c.1.toNat]?=some p->qs[k]?=some q->p.1=q.1/\fm paper (aW c.2 p.1) p.2 q.2)/\ah H2 H') ?_ ?_ ?_⟩
    . exact⟨_,rfl,(λ k c p q h=>absurd h (Jc _)),ah.refl _⟩
    . rintro i Hh H3 hi ⟨u5,rfl,hm,s3⟩
      rw[JX];refine cb ?_;have s03:=s02.trans s3;refine⟨_,rfl,_,rfl,_,rfl,_,rfl,.ref pp,.ref qp,pa,ps,qs,us,paper,xs,m,i,rfl,hp.same s03 (bW ps),hq.same s03 (bW qs),s03 _ _ hpa,hpp.same s03,pok,qin,layq,nok,ic,hx,⋯,hlen',hall,λ b H4 hb s4=>⟨_,rfl,?_⟩⟩;cases b with
      | false =>
        refine bf ?_;exact q false H4 ⟨(λ h=>nomatch h),λ h=>absurd (hb.mpr λ c p q' h1 h2 h3=>h.all i c p q' h1 h2 h3) ⋯⟩ (s03.trans s4)
      | true =>
        refine br ?_;refine⟨_,rfl,λ k c p q' hk h1 h2 h3=>?_,s3.trans s4⟩;by_cases hki:k=i
        . subst hki
          exact hb.mp rfl c p q' h1 h2 h3
        . exact hm k c p q' ⋯ h1 h2 h3
    . rintro Hh H3 ⟨u5,rfl,hm,s3⟩
      refine q true H3 ⟨λ _=>⟨hlen',hall,⟨c0,hc0,hz,hsnd⟩,λ k c p q' h1 h2 h3=>hm k c p q' ?_ h1 h2 h3⟩,λ _=>rfl⟩ (s02.trans s3);have:=(HD.mp h3).1;omega
theorem vV {f:Addr} {fd:FuncData} (F:b4 K "_law_right" "_law_right" km f fd) (Z:Bl mg) (bm:Own P w K mg base "paper_holds" 9 ["plan", "other", "paper"] gd) (At:Own P w K mg base "_law_paper_holds" 5 ["plan", "other", "paper"] gd):bA P w K mg base bY 10 f fd ["plan", "other", "paper"] vK:=by
  refine F.ok (k:=9) nz (λ vs H Q E h=>?_) (λ cdv A outer s H vs Q E hr h=>?_)
  . obtain⟨plv,qlv,pa,ps,qs,us,paper,xs,m,rfl,_⟩:=h
    rfl
  . obtain⟨plv,qlv,pa,ps,qs,us,paper,xs,m,rfl,hp,hq,hpa,hpp,pok,qin,layq,nok,ic,hx,hm12,hp0,hpn,hn0,hn,q⟩:=h
    refine⟨_,(ai (aN (i:=3) nz.nd rfl (Hj rfl) (aw bm (hr.mono ⋯) rfl (aa (pv 0) (aa (pv 1) (aa (pv 2) ae)))))
      (ar (aF (hJ (aP A0 rfl Z.isinstance tT (aa (pv 3) (aa (C1 (v:=.ty "bool") rfl Z.bool Dl rfl) ae))) (fg (dP bC (pv 3) (aw At (hr.mono ⋯) rfl (aa (pv 0) (aa (pv 1) (aa (pv 2) ae)))) (aG _))))))),?_⟩
    refine⟨_,rfl,_,rfl,_,rfl,plv,qlv,pa,ps,qs,us,paper,xs,m,rfl,hp,hq,hpa,hpp,pok,qin,layq,nok,ic,hx,hm12,hp0,hpn,hn0,hn,λ b H1 hb s1=>?_⟩;refine⟨_,rfl,_,_,_,true,rfl,hX.bl _,rfl,_,rfl,bf ?_⟩;refine⟨_,rfl,_,rfl,_,rfl,_,rfl,plv,qlv,pa,ps,qs,us,paper,xs,m,rfl,hp.same s1 (bW ps),hq.same s1 (bW qs),s1 _ _ hpa,hpp.same s1,pok,qin,layq,nok,ic,hx,hm12,hp0,hpn,hn0,hn,λ b2 H2 hb2 s2=>⟨rfl,?_⟩⟩;have hbb:b=b2:=by
      cases b<;>cases b2<;>first | rfl | exact absurd (hb.mpr (hb2.mp rfl)) ⋯ | exact absurd (hb2.mpr (hb.mp rfl)) ⋯
    rw[hbb,show decide (V.bl b2=V.bl b2)=true from decide_eq_true rfl];exact q H2 (s1.trans s2)
theorem Fj {f:Addr} {fd:FuncData} (F:b4 K "law" "law" nT f fd) (Z:Bl mg) {C:Addr} (T:vo K C) (ge:Own P w K mg base "_law_bag" 1 ["script", "k"] (CG K)) (ac:Own P w K mg base "_law_take" 1 ["bag", "many"] fL) (AC:Own P w K mg base "_law_count" 2 ["bag", "most"] w6) (gt:Own P w K mg base "_law_plan" 4 ["bag", "count", "most"] zt) (jp:Own P w K mg base "led_past" 7 ["plan", "most"] (tE P w C)) (bm:Own P w K mg base "paper_holds" 9 ["plan", "other", "paper"] gd) (ii:Own P w K mg base "_law_paper_spoilt" 5 ["bag", "paper", "count"] tO) (kS:Own P w K mg base "_law_other_spoilt" 4 ["bag", "other"] tN) (ap:Own P w K mg base "_law_right" 10 ["plan", "other", "paper"] vK):bA P w K mg base bY 11 f fd ["script"] (ur K):=by
  refine F.ok (k:=10) eB (λ vs H Q E h=>?_) (λ cdv A outer s H vs Q E hr h=>?_)
  . obtain⟨a,ns,rfl,_⟩:=h
    rfl
  . obtain⟨a,ns,rfl,hS,hlen,q⟩:=h
    refine⟨_,(ai (aN (i:=1) eB.nd rfl (Hj rfl) (aw ge (hr.mono ⋯) rfl (aa (pv 0) (aa ao ae))))
      (ai (aN (i:=2) eB.nd rfl (Hj rfl) (aw gt (hr.mono ⋯) rfl (aa (aw ge (hr.mono ⋯) rfl (aa (pv 0) (aa ao ae))) (aa (aw AC (hr.mono ⋯) rfl (aa (pv 1) (aa ao ae))) (aa ao ae)))))
      (ai (aN (i:=3) eB.nd rfl (Hj rfl) (aw jp (hr.mono ⋯) rfl (aa (pv 2) (aa (aH cf (cU (aa ao (aa (bh cK ao (aw ac (hr.mono ⋯) rfl (aa (pv 1) (aa ao ae)))) ae))) (aw ac (hr.mono ⋯) rfl (aa (pv 1) (aa ao ae))) (λ _ _=>rfl)) ae))))
      (ai (aN (i:=4) eB.nd rfl (Hj rfl) (aX (aa (pv 2) (aa (bw bL rfl Z.tuple cL (aa (dA ["k"] [] [] rfl (fC rfl Z.range (aa (aP aO rfl Z.len bM (aa (pv 2) ae)) ae)) rfl ⋯ ⋯ ⋯ True.intro (λ _ _ _ _=>(ay (i:=0) (show ((["k"]:List Str)++([]:List Str)).Nodup by decide) rfl (Hj rfl) (hf:=Hz rfl))) (λ _ _ _ _=>dG) (λ _ _ _ _=>(aX (aa (pv 0) (aa (aX ae) ae))))) ae)) ae))))
      (ai (aS (PW.pt (fO (aB sH (aw bm (hr.mono ⋯) rfl (aa (pv 2) (aa (aH aL (pv 3) ao (λ _ _=>rfl)) (aa (aH aL (pv 3) ao (λ _ _=>rfl)) ae)))) cM (aG _)) (ff (aB sH (aw bm (hr.mono ⋯) rfl (aa (pv 2) (aa (aH aL (pv 4) ao (λ _ _=>rfl)) (aa (aH aL (pv 4) ao (λ _ _=>rfl)) ae)))) cM (aG _)))))
      (ar (aF cM))
      aK)
      (ai (aN (i:=5) eB.nd rfl (Hj rfl) (aw gt (hr.mono ⋯) rfl (aa (pv 1) (aa ao (aa ao ae)))))
      (ai (cA (aw jp (hr.mono ⋯) rfl (aa (pv 5) (aa ao ae))) (bX rfl (aJ (ay (i:=6) eB.nd rfl (Hj rfl)) (aJ (ay (i:=7) eB.nd rfl (Hj rfl)) bN))))
      (ai (aS (PW.pt (fO (fS (eI (aw ap (hr.mono ⋯) rfl (aa (pv 5) (aa (pv 6) (aa (pv 7) ae)))))) (ff (fS (eI (aw ap (hr.mono ⋯) rfl (aa (pv 5) (aa (pv 6) (aa (aw ii (hr.mono ⋯) rfl (aa (pv 1) (aa (pv 7) (aa ao ae)))) ae)))))))))
      (ar (aF cM))
      aK)
      (ai (aN (i:=5) eB.nd rfl (Hj rfl) (aw gt (hr.mono ⋯) rfl (aa (pv 1) (aa ao (aa ao ae)))))
      (ai (aN (i:=7) eB.nd rfl (Hj rfl) (bw bL rfl Z.tuple cL (aa (dA ["k"] [] [] rfl (fC rfl Z.range (aa ao ae)) rfl ⋯ ⋯ ⋯ True.intro (λ _ _ _ _=>(ay (i:=0) (show ((["k"]:List Str)++([]:List Str)).Nodup by decide) rfl (Hj rfl) (hf:=Hz rfl))) (λ _ _ _ _=>dG) (λ _ _ _ _=>(aX (aa (pv 0) (aa (aX ae) ae))))) ae)))
      (ai (aS (PW.pt (fO (fS (eI (aw ap (hr.mono ⋯) rfl (aa (pv 5) (aa (pv 5) (aa (pv 7) ae)))))) (ff (fS (eI (aw ap (hr.mono ⋯) rfl (aa (pv 5) (aa (aw kS (hr.mono ⋯) rfl (aa (pv 1) (aa (pv 5) ae))) (aa (pv 7) ae)))))))))
      (ar (aF cM))
      aK)
      (ai (aS (fS (eI (aw ap (hr.mono ⋯) rfl (aa (pv 5) (aa (pv 5) (aa (aw ii (hr.mono ⋯) rfl (aa (pv 1) (aa (pv 7) (aa ao ae)))) ae))))))
      (ar (aF cM))
      aK)
      (ai (dJ PassesOwn.never rfl (fC rfl Z.range (aa (bh cK ao (aP (mB rfl) rfl Z.min uN (aa (aP aO rfl Z.len bM (aa (pv 0) ae)) (aa ao ae)))) ae)) (ay (i:=8) eB.nd rfl (Hj rfl))
      (ai (aN (i:=1) eB.nd rfl (Hj rfl) (aw ge (hr.mono ⋯) rfl (aa (pv 0) (aa (pv 8) ae))))
      (ai (aN (i:=9) eB.nd rfl (Hj rfl) (aw ac (hr.mono ⋯) rfl (aa (pv 1) (aa ao ae))))
      (ai (cA (aH cf (cU (aa (pv 3) (aa (pv 4) ae))) (bw fU rfl Z.int ju (aa (dP bC (aw ac (hr.mono ⋯) rfl (aa (pv 1) (aa ao ae))) ao (aG _)) ae)) (λ _ _=>rfl)) (bX rfl (aJ (ay (i:=6) eB.nd rfl (Hj rfl)) (aJ (ay (i:=7) eB.nd rfl (Hj rfl)) bN))))
      (ai (cY (aS (aB jT (pv 9) ao (aG _))
      (ar (aN (i:=7) eB.nd rfl (Hj rfl) (aw ii (hr.mono ⋯) rfl (aa (pv 1) (aa (pv 7) (aa (aP aO rfl Z.len bM (aa (pv 2) ae)) ae))))))
      aK))
      (ai (cY (aS (aB jT (pv 9) ao (aG _))
      (ar (aN (i:=6) eB.nd rfl (Hj rfl) (aw kS (hr.mono ⋯) rfl (aa (pv 1) (aa (pv 6) ae)))))
      aK))
      (ar (aS (fS (eI (aw ap (hr.mono ⋯) rfl (aa (pv 2) (aa (pv 6) (aa (pv 7) ae))))))
      (ar (aF cM))
      aK))))))))
      (ar (aF cM))))))))))))))),?_⟩
    refine⟨_,rfl,a,ns,0,rfl,hS,⋯,λ b H1 nb B1 s1=>?_⟩;refine⟨_,rfl,a,ns,1,rfl,s1.seq hS,⋯,λ b2 H5 nb2 B5 s5=>?_⟩;have B15:=B1.same s5;have nbb:b2≠b:=B1.d6 nb2;refine⟨_,rfl,b,20,rfl,B15,⋯,⋯,λ c H7 c0 c1 B7 X7=>?_⟩;have B27:cy H7 b2:=by
      obtain⟨x,y,e,zz⟩:=B5;exact⟨x,y,X7 _ _ e nbb,zz⟩
    refine⟨b2,c,3,rfl,B27,c0,⋯,⋯,λ plv xs0 ps H8 r8 hc8 pok0 xok B8 X8=>?_⟩;have B18:cy H8 b:=by
      obtain⟨x,y,e,zz⟩:=B7;exact⟨x,y,X8 _ _ e nbb.symm,zz⟩
    have s7:ah H H7:=ah.fK (s1.trans s5) nb X7;have s8:ah H H8:=ah.fK s7 (s1.free nb2) X8;have hin:ef ps:=pok0.mK;have hn0:0<ps.length:=by omega
    have hn20:ps.length<=20:=by omega
    have pok6:=pok0.up (k:=6) ⋯;have pok12:=(pok0.up (k:=12) ⋯).xy [("zz" : Str)];have hx10:xs0.length<=10:=by have:=xok.2;omega
    have hx50:(xs0++[("zz" : Str)]).length<=50:=by rw[Ht];show _+1<=50;omega
    have hzz:("zz" : Str)∈xs0++[("zz" : Str)]:=HS _ (Hm.mpr rfl);have nok:∀x∈xs0++[("zz" : Str)],dM x:=λ x hx=>(HI.mp hx).elim (xok.1 x) λ h=>by rw[Hm.mp h];exact rN
    clear B8 X8 B27 X7 B7 B15 B5 s7;exists _,rfl;refine⟨_,rfl,b,40,rfl,B18,⟨by decide,by decide⟩,λ z H9 z0 z1 B9 X9=>⟨_,_,rfl,rfl,ln2,λ l nl=>?_⟩⟩;refine⟨_,rfl,b,2,rfl,B9.new nl,⟨by decide,by decide⟩,λ y H10 y0 y1 B10 X10=>?_⟩;have hl10:=X10 l _ af (B9.d6 nl);have F810:Fix b H8 H10:=(X9.trans (Fix.new nl)).trans X10;obtain⟨most,hat,hm1,hm3⟩:∃m:Nat,eY [V.int 300,V.int (1+z)] y=some (V.int m)/\1<=m/\m<=300:=by
      obtain⟨k1,rfl⟩:∃k:Nat,z=k:=⟨z.toNat,by omega⟩;obtain rfl | rfl:y=0\/y=1:=by omega
      . exact⟨300,cg,by decide,by decide⟩
      . exact⟨1+k1,cB,by omega,by omega⟩
    have r10:bg H10 plv (eF ps):=r8.aM (λ p zs e=>F810 p _ e (B18.bK e)) (bW ps);have s10:ah H H10:=ah.fK s8 nb F810;refine⟨l,_,_,_,rfl,rfl,aT.of hl10,hat,plv,ps,xs0,most,rfl,r10,pok6,xok.1,hx10,hn0,⋯,hm1,hm3,λ lv ds H11 cc r11 s11=>?_⟩;obtain⟨lp,lvs,rfl,hlp,rl⟩:=bg.bQ r11;obtain⟨ov,t1,rfl,ro,rl⟩:=rl.cons_inv;obtain⟨cv,t2,rfl,rc,rl⟩:=rl.cons_inv;have z':=rl.nil_inv;subst z';obtain⟨cp,cvs,rfl,hcp,rcvs⟩:=bg.bQ rc;have pokL:=tG pok6 hn0 hm1;have hsz:=tH pok6 hn0 hm1;obtain⟨I,hol,_⟩:=jJ pok6 hn0 hm1;have hP:=tL pok6 hn0 hm1;have W11:iB H11 ov cp (eV ps most).2 ((eV ps most).1.map jL) (xs0++[("zz" : Str)]):=⟨ro,⟨cvs,hcp,vI rcvs cc⟩,(λ c hc=>by obtain⟨c',hc',rfl⟩:=HE.mp hc;exact ((I.ok c' hc').2).xy _),pokL.mK,iA xok.1 pokL,(λ p hp=>Hu (pokL.eX p hp).1 ⋯),(by have:=hsz.1;have:=hP.len;rw[Hk] at this;omega),(by have:=hsz.2;omega),(by have:=hsz.1;rw[Hk];have:=hP.len;rw[Hk] at this;omega),(by have:=hsz.2;rw[Hk];have:=hP.len;rw[Hk] at this;omega)⟩;refine cb ?_;clear hl10 hat F810 X10 X9 B9 nl rcvs rc hcp r11 hol hsz cc r8 B18 s8;have B11:=B10.same s11;have s011:=s10.trans s11;have rp11:=r10.same s11 (bW ps);obtain⟨pp,vs,rfl,e1,rvs⟩:=bg.bQ (show bg H11 plv (.tuple (ps.map eN)) from rp11);have hvl:vs.length=ps.length:=by have:=rvs.len;rw[Hk] at this;exact this
    refine⟨_,rfl,_,rfl,pp,_,rfl,.inr (au.of e1),_,rfl,⋯,⋯,λ acc na=>?_⟩;refine kW (lo:=0) (λ i' ys Hi H'=>∃(c1:Option V),Hi=[c1]/\H' acc=some (.lst ys)/\cC H' ys ((eW ps.length).take i')/\ah H11 H') ?_ ?_ ?_ ?_
    . exact⟨none,rfl,af,.nil,ah.new na⟩
    . rintro i' ys Hi H' hi' ⟨c1,rfl,ha,hv,sa⟩
      exists ha;have:=dZ hv;rw[HP] at this;exact bB ⋯
    . rintro i' ys Hi H' hi' ⟨c1,rfl,ha,hv,sa⟩
      have hip:i' < ps.length:=by omega
      rw[JX];refine cb ?_;refine gy ?_;refine bf ?_;refine⟨_,rfl,(by show 0<=sizeLine;decide),λ t0 n0=>⟨ln2,λ t1 n1=>?_⟩⟩;have q0:=ah.new (o:=.tup []) n0;have q1:=ah.new (o:=.tup [.int (i':Nat),.ref t0]) n1;have q01:=q0.trans q1;have ha2:=q01 _ _ ha;refine⟨ha2,_,rfl,af,?_,(sa.trans q01).put na⟩;have kt:∀p zs,(upd (upd H' t0 (.tup [])) t1 (.tup [.int (i':Nat),.ref t0])) p=some (.tup zs)->(upd (upd (upd H' t0 (.tup [])) t1 (.tup [.int (i':Nat),.ref t0])) acc (.lst (ys++[.ref t1]))) p=some (.tup zs):=λ p zs e=>by rw[av (bP e ha2 (by intro z;cases z))];exact e
      rw[HM,plain_at hip];refine L2.dY (cC.aM kt (cC.same hv q01)) (.cons ⟨t1,.ref t0,rfl,kt _ _ af,FD.zero.fv (.tup (kt _ _ (q1 _ _ af)) .nil)⟩ .nil)
    rintro ys Hi H14 ⟨c1,rfl,ha,hv,sa⟩;have hv':cC H14 ys (eW ps.length):=by
      rw[hvl,Jr (by rw[gx];exact Hn _)] at hv;exact hv
    refine⟨acc,_,rfl,.inl ⟨aT.of ha,λ t nt=>⟨ln2,λ pl npl=>?_⟩⟩⟩;have s15:=(sa.trans (ah.new (o:=.tup ys) nt)).trans (ah.new (o:=.tup [.ref pp,.ref t]) npl);have rp15:=rp11.same s15 (bW ps);have hpl15:(upd (upd H14 t (.tup ys)) pl (.tup [.ref pp,.ref t])) pl=some (.tup [.ref pp,.ref t]):=af;have W15:iB (upd (upd H14 t (.tup ys)) pl (.tup [.ref pp,.ref t])) (.ref pp) t ps (eW ps.length) (xs0++[("zz" : Str)]):=⟨rp15,⟨ys,ah.new npl _ _ af,cC.same hv' ((ah.new nt).trans (ah.new npl))⟩,tP,hin,iA nok pok12,(λ p hp=>(pok12.eX p hp).1),hn0,⋯,(by rw[gx];exact hn0),(by rw[gx];omega)⟩;generalize (upd (upd H14 t (.tup ys)) pl (.tup [.ref pp,.ref t]))=H15 at s15 rp15 hpl15 W15;have M15:=W11.same s15;have hlp15:=s15 _ _ hlp;have B15:=B11.same s15;have s015:=s011.trans s15;clear ha hv hv' sa na nt npl s15 s10 s11 r10 B10 W11 hlp ro e1 rvs;refine cb ?_;generalize xs0++[("zz" : Str)]=xs at *;obtain⟨ua,hua,hpa⟩:=M15.pp;refine⟨_,rfl,_,rfl,lp,_,0,_,rfl,rfl,au.of hlp15,cg,_,rfl,lp,_,1,_,rfl,rfl,au.of hlp15,cB,.ref pp,ov,cp,ps,_,ua,_,xs,12,rfl,rp15,M15.ro,hua,hpa,pok12,M15.oJ,M15.lay,nok,M15.tok,hx50,⋯,hn0,⋯,M15.p0,(by have:=M15.oM;omega),λ bb H16 hb s16=>?_⟩;obtain rfl:bb=true:=hb.mpr hP;exists _,_,rfl,rfl,_,rfl;refine aY rfl ?_;have W16:=W15.same s16;obtain⟨ub,hub,hpb⟩:=W16.pp;refine⟨_,rfl,_,rfl,pl,_,0,_,rfl,rfl,au.of (s16 _ _ hpl15),cg,_,rfl,pl,_,1,_,rfl,rfl,au.of (s16 _ _ hpl15),cB,.ref pp,.ref pp,t,ps,_,ub,_,xs,12,rfl,rp15.same s16 (bW ps),W16.ro,hub,hpb,pok12,W16.oJ,W16.lay,nok,W16.tok,hx50,⋯,hn0,⋯,W16.p0,(by have:=W16.oM;omega),λ bb H17 hb s17=>?_⟩;obtain rfl:bb=true:=hb.mpr (wm hin hn0);exists _,_,rfl,rfl,_,rfl;refine aY rfl ?_;have s157:=s16.trans s17;have s017:=s015.trans s157;have M17:=M15.same s157;have W17:=W16.same s17;have hlp17:=s157 _ _ hlp15;have hpl17:=s157 _ _ hpl15;have rp17:=rp15.same s157 (bW ps);have B17:=B15.same s157;clear M15 W15 W16 hlp15 hpl15 rp15 s16 s17 s157 s015 B15 hua hpa hub hpb hb B11 s011 rp11;have KP:∀{H'},(∀p zs,H17 p=some (.tup zs)->H' p=some (.tup zs))->iB H' ov cp (eV ps most).2 ((eV ps most).1.map jL) xs/\iB H' (.ref pp) t ps (eW ps.length) xs/\H' lp=some (.tup [ov,.ref cp])/\H' pl=some (.tup [.ref pp,.ref t])/\bg H' (.ref pp) (eF ps):=λ k=>⟨M17.aM k,W17.aM k,k _ _ hlp17,k _ _ hpl17,rp17.aM k (bW ps)⟩
    clear hP I;refine⟨_,rfl,b,60,1,rfl,B17,⋯,⋯,⋯,λ gv xg0 gs H18 rg18 hg18 gok xgk B18 X18=>?_⟩;refine cb ?_;have kp18:∀p zs,H17 p=some (.tup zs)->H18 p=some (.tup zs):=λ p zs e=>X18 p _ e (B17.bK e)
    have s018:ah H H18:=ah.fK s017 nb X18;have g0:0<gs.length:=by omega
    have gok6:=gok.up (k:=6) ⋯;have gx10:xg0.length<=10:=by have:=xgk.2;omega
    refine⟨_,rfl,gv,gs,xg0,300,rfl,rg18,gok6,xgk.1,gx10,g0,⋯,⋯,⋯,λ lv ds H19 cc r19 s19=>?_⟩;obtain⟨lq,lws,rfl,hlq,rl⟩:=bg.bQ r19;obtain⟨ov2,t1,rfl,ro,rl⟩:=rl.cons_inv;obtain⟨cv,t2,rfl,rc,rl⟩:=rl.cons_inv;have z':=rl.nil_inv;subst z';obtain⟨cp2,cvs,rfl,hcp,rcvs⟩:=bg.bQ rc;have pokL:=tG gok6 g0 (most:=300) ⋯;have hsz:=tH gok6 g0 (most:=300) ⋯;obtain⟨I,hol,_⟩:=jJ gok6 g0 (most:=300) ⋯;have hL:=(tL gok6 g0 (most:=300) ⋯).len;have G19:iB H19 ov2 cp2 (eV gs 300).2 ((eV gs 300).1.map jL) (xg0++[("zz" : Str)]):=⟨ro,⟨cvs,hcp,vI rcvs cc⟩,(λ c hc=>by obtain⟨c',hc',rfl⟩:=HE.mp hc;exact ((I.ok c' hc').2).xy _),pokL.mK,iA xgk.1 pokL,(λ p hp=>Hu (pokL.eX p hp).1 ⋯),hsz.1,(by have:=hsz.2;omega),(by have:=hsz.1;omega),(by have:=hsz.2;omega)⟩;have gok12:=(gok.up (k:=12) ⋯).xy [("zz" : Str)];have gx50:(xg0++[("zz" : Str)]).length<=50:=by rw[Ht];show _+1<=50;omega
    have gzz:("zz" : Str)∈xg0++[("zz" : Str)]:=HS _ (Hm.mpr rfl);have gnk:∀x∈xg0++[("zz" : Str)],dM x:=λ x hx=>(HI.mp hx).elim (xgk.1 x) λ h=>by rw[Hm.mp h];exact rN
    have rg19:=rg18.same s19 (bW gs);have B19:=B18.same s19;have s019:=s018.trans s19;exists lq,_,rfl,au.of hlq,rfl,_,_,rfl,_,_,rfl,rfl;have kp19:∀p zs,H17 p=some (.tup zs)->H19 p=some (.tup zs):=λ p zs e=>s19 _ _ (kp18 _ _ e)
    clear rcvs rc hcp ro hlq r19 I hol hsz hL pokL cc gok6 gok rg18 B18 X18 kp18 s018;generalize xg0++[("zz" : Str)]=xg at *;obtain⟨uc,huc,hpc⟩:=G19.pp;refine⟨_,rfl,_,rfl,_,rfl,gv,ov2,cp2,gs,_,uc,_,xg,12,rfl,rg19,G19.ro,huc,hpc,gok12,G19.oJ,G19.lay,gnk,G19.tok,gx50,⋯,g0,⋯,G19.p0,(by have:=G19.oM;omega),λ H20 s20=>⟨_,rfl,?_⟩⟩;refine aY rfl ?_;have G20:=G19.same s20;obtain⟨uc,huc,hpc⟩:=G20.pp;have B20:=B19.same s20;refine⟨_,rfl,_,rfl,_,rfl,_,rfl,b,cp2,uc,_,xg,60,rfl,B20,huc,hpc,G20.tok,gzz,gx50,G20.p0,G20.oM,λ t2 us2 pp2 H21 ht2 hv2 hk2 h02 h42 B21 X21=>?_⟩;have kt21:∀p zs,H20 p=some (.tup zs)->H21 p=some (.tup zs):=λ p zs e=>X21 p _ e (B20.bK e)
    have G21:=G20.aM kt21;have rg21:=(rg19.same s20 (bW gs)).aM kt21 (bW gs);refine⟨gv,ov2,t2,gs,_,us2,_,xg,12,rfl,rg21,G21.ro,ht2,hv2,gok12,G21.oJ,G21.lay,gnk,hk2,gx50,⋯,g0,⋯,h02,⋯,λ H22 s22=>⟨_,rfl,?_⟩⟩;refine aY rfl ?_;have B22:=B21.same s22;have s022:ah H H22:=(ah.fK (s019.trans s20) nb X21).trans s22;have kp22:∀p zs,H17 p=some (.tup zs)->H22 p=some (.tup zs):=λ p zs e=>s22 _ _ (kt21 _ _ (s20 _ _ (kp19 _ _ e)))
    clear G19 G20 G21 rg19 rg21 B19 B20 B21 X21 kt21 huc hpc ht2 hv2 hk2 h02 h42 s20 s22 s019 s19 kp19 gok12 gx50 gzz gnk gx10 xgk hg18 g0;refine⟨_,rfl,b,400,0,rfl,B22,⋯,⋯,⋯,λ hv xh0 hs H23 rh23 hh23 bc xhk B23 X23=>?_⟩;refine cb ?_;have kp23:∀p zs,H17 p=some (.tup zs)->H23 p=some (.tup zs):=λ p zs e=>X23 p _ (kp22 _ _ e) (B22.bK (kp22 _ _ e))
    have s023:ah H H23:=ah.fK s022 nb X23;refine⟨400,rfl,⋯,⋯,λ acc na=>?_⟩;refine kW (lo:=0) (λ i' ys Hi H'=>∃(c1:Option V),Hi=[c1]/\H' acc=some (.lst ys)/\cC H' ys ((eW 400).take i')/\ah H23 H') ?_ ?_ ?_ ?_
    . exact⟨none,rfl,af,.nil,ah.new na⟩
    . rintro i' ys Hi H' hi' ⟨c1,rfl,ha,hy,sa⟩
      exists ha;have:=dZ hy;rw[HP] at this;exact bB ⋯
    . rintro i' ys Hi H' hi' ⟨c1,rfl,ha,hy,sa⟩
      have hip:i' < 400:=by omega
      rw[JX];refine cb ?_;refine gy ?_;refine bf ?_;refine⟨_,rfl,(by show 0<=sizeLine;decide),λ t0 n0=>⟨ln2,λ t1 n1=>?_⟩⟩;have q0:=ah.new (o:=.tup []) n0;have q1:=ah.new (o:=.tup [.int (i':Nat),.ref t0]) n1;have q01:=q0.trans q1;have ha2:=q01 _ _ ha;refine⟨ha2,_,rfl,af,?_,(sa.trans q01).put na⟩;have kt:∀p zs,(upd (upd H' t0 (.tup [])) t1 (.tup [.int (i':Nat),.ref t0])) p=some (.tup zs)->(upd (upd (upd H' t0 (.tup [])) t1 (.tup [.int (i':Nat),.ref t0])) acc (.lst (ys++[.ref t1]))) p=some (.tup zs):=λ p zs e=>by rw[av (bP e ha2 (by intro z;cases z))];exact e
      rw[HM,plain_at hip];refine L2.dY (cC.aM kt (cC.same hy q01)) (.cons ⟨t1,.ref t0,rfl,kt _ _ af,FD.zero.fv (.tup (kt _ _ (q1 _ _ af)) .nil)⟩ .nil)
    rintro ys Hi H14 ⟨c1,rfl,ha,hy,sa⟩;have hy':cC H14 ys (eW 400):=by
      rw[Jr (by rw[gx];exact Hn _)] at hy;exact hy
    refine⟨acc,_,rfl,.inl ⟨aT.of ha,λ th nt=>?_⟩⟩;have s15:=sa.trans (ah.new (o:=.tup ys) nt);have hin4:=bc.mK;have hok12:=(bc.up (k:=12) ⋯).xy [("zz" : Str)];have hx50':(xh0++[("zz" : Str)]).length<=50:=by rw[Ht];have:=xhk.2;show _+1<=50;omega
    have hzz':("zz" : Str)∈xh0++[("zz" : Str)]:=HS _ (Hm.mpr rfl);have hnk:∀x∈xh0++[("zz" : Str)],dM x:=λ x hx=>(HI.mp hx).elim (xhk.1 x) λ h=>by rw[Hm.mp h];exact rN
    have rh24:=rh23.same s15 (bW hs);have W24:iB (upd H14 th (.tup ys)) hv th hs (eW 400) (xh0++[("zz" : Str)]):=⟨rh24,⟨ys,af,cC.same hy' (ah.new nt)⟩,tP,hin4,iA hnk hok12,(λ p hp=>(hok12.eX p hp).1),⋯,⋯,(by rw[gx];decide),(by rw[gx];decide)⟩;generalize (upd H14 th (.tup ys))=H24 at s15 rh24 W24;have B24:=B23.same s15;have s024:=s023.trans s15;have kp24:∀p zs,H17 p=some (.tup zs)->H24 p=some (.tup zs):=λ p zs e=>s15 _ _ (kp23 _ _ e)
    clear ha hy hy' sa na nt s15 rh23 B23 X23 kp23 s023 kp22 s022 B22 bc;generalize xh0++[("zz" : Str)]=xh at *;refine cb ?_;obtain⟨uc,huc,hpc⟩:=W24.pp;refine⟨_,rfl,_,rfl,_,rfl,hv,hv,th,hs,_,uc,_,xh,12,rfl,rh24,W24.ro,huc,hpc,hok12,W24.oJ,W24.lay,hnk,W24.tok,hx50',⋯,⋯,⋯,W24.p0,(by have:=W24.oM;omega),λ H25 s25=>⟨_,rfl,?_⟩⟩;refine aY rfl ?_;have W25:=W24.same s25;have B25:=B24.same s25;refine⟨_,rfl,_,rfl,_,rfl,b,hv,hs,rfl,B25,W25.ro,W25.oJ,W25.lay,W25.bV,W25.q0,⋯,λ v2 qs2 H26 g1 g2 g3 g4 g5 B26 X26=>?_⟩;have kt26:∀p zs,H25 p=some (.tup zs)->H26 p=some (.tup zs):=λ p zs e=>X26 p _ e (B25.bK e)
    have W26:=W25.aM kt26;obtain⟨ud,hud,hpd⟩:=W26.pp;refine⟨_,rfl,hv,v2,th,hs,qs2,ud,_,xh,12,rfl,W26.ro,g1,hud,hpd,hok12,g3,g4,hnk,W26.tok,hx50',⋯,⋯,⋯,W26.p0,(by have:=W26.oM;omega),λ H27 s27=>⟨_,rfl,?_⟩⟩;refine aY rfl ?_;have W27:=W26.same s27;have B27:=B26.same s27;obtain⟨ue,hue,hpe⟩:=W27.pp;refine⟨_,rfl,_,rfl,_,rfl,_,rfl,b,th,ue,_,xh,400,rfl,B27,hue,hpe,W27.tok,hzz',hx50',W27.p0,W27.oM,λ t2 us2 pp2 H28 ht2 hv2 hk2 h02 h42 B28 X28=>?_⟩;have kt28:∀p zs,H27 p=some (.tup zs)->H28 p=some (.tup zs):=λ p zs e=>X28 p _ e (B27.bK e)
    have W28:=W27.aM kt28;refine⟨hv,hv,t2,hs,_,us2,_,xh,12,rfl,W28.ro,W28.ro,ht2,hv2,hok12,W28.oJ,W28.lay,hnk,hk2,hx50',⋯,⋯,⋯,h02,⋯,λ H29 s29=>⟨_,rfl,?_⟩⟩;refine aY rfl ?_;have s029:ah H H29:=(ah.fK ((ah.fK (s024.trans s25) nb X26).trans s27) nb X28).trans s29;have kp29:∀p zs,H17 p=some (.tup zs)->H29 p=some (.tup zs):=λ p zs e=>s29 _ _ (kt28 _ _ (s27 _ _ (kt26 _ _ (s25 _ _ (kp24 _ _ e)))))
    clear W24 W25 W26 W27 W28 B24 B25 B26 B27 B28 X26 X28 kt26 kt28 huc hpc hud hpd hue hpe g1 g2 g3 g4 g5 s25 s27 s29 s024 kp24 rh24 hok12 hx50' hzz' hnk hin4 xhk ht2 hv2 hk2 h02 h42;refine⟨_,rfl,a,_,rfl,.inl (s029.seq hS),_,_,rfl,_,_,rfl,rfl,_,rfl,(by split<;>(try rw[Hk])<;>omega),(by split<;>(try rw[Hk])<;>omega),jS (lo:=0) (λ i Hh H'=>∃(u0 u1 u2 u3 u4 u5:Option V),Hh=[some (.ref a),u0,some (.ref pp),some (.ref lp),some (.ref pl),u1,u2,u3,u4,u5]/\(∀p zs,H17 p=some (.tup zs)->H' p=some (.tup zs))/\ah H H') ?_ ?_ ?_⟩
    . exact⟨_,_,_,_,_,_,rfl,kp29,s029⟩
    . clear kp29 s029
      rintro i Hh H13 hi ⟨u0,u1,u2,u3,u4,u5,rfl,kp13,s13⟩;rw[JX];refine cb ?_;refine⟨_,rfl,_,rfl,a,ns,i,rfl,s13.seq hS,⋯,λ b3 H14 nb3 B14 s14=>?_⟩;refine cb ?_;refine⟨_,rfl,b3,3,rfl,B14,⟨by decide,by decide⟩,λ way H15 w0 w1 B15 X15=>?_⟩;refine cb ?_;have nb3':H b3=none:=s13.free nb3;refine⟨_,rfl,_,rfl,ln2,λ l nl=>?_⟩;refine⟨_,rfl,b3,4,rfl,B15.new nl,⟨by decide,by decide⟩,λ z H16 z0 z1 B16 X16=>⟨rfl,.inr ⟨_,rfl,?_⟩⟩⟩;have hl16:=X16 l _ af (B15.d6 nl);have X56:Fix b3 H15 H16:=(Fix.new nl).trans X16;have kp16:∀p zs,H17 p=some (.tup zs)->H16 p=some (.tup zs):=λ p zs e=>X56 p _ (X15 p _ (s14 _ _ (kp13 _ _ e)) (B14.bK (s14 _ _ (kp13 _ _ e)))) (B15.bK (X15 p _ (s14 _ _ (kp13 _ _ e)) (B14.bK (s14 _ _ (kp13 _ _ e)))))
      have s016:ah H H16:=ah.fK (ah.fK (s13.trans s14) nb3' X15) nb3' X56;obtain⟨tq,ov3,pa3,qs3,paper3,hat,htq,W16⟩:∃(tq:Addr) (ov3:V) (pa3:Addr) (qs3:List Piece) (paper3:List Pp),eY [V.ref lp,V.ref pl] (if decide (V.int z=V.int 0)=true then 1 else 0)=some (V.ref tq)/\H16 tq=some (.tup [ov3,.ref pa3])/\iB H16 ov3 pa3 qs3 paper3 xs:=by
        obtain⟨k1,k2,k3,k4,k5⟩:=KP kp16;cases decide (V.int z=V.int 0) with
        | true=>exact⟨pl,.ref pp,t,_,_,cB,k4,k2⟩
        | false=>exact⟨lp,ov,cp,_,_,cg,k3,k1⟩
      exists l,_,_,_,rfl,rfl,aT.of hl16,hat,tq,_,rfl,au.of htq,rfl,_,_,rfl,_,_,rfl,rfl;have rp16:=(KP kp16).2.2.2.2;clear hat htq hl16 X56 X16 nl B15 X15 s14 B14 s13 kp13;exists λ σ' H'=>∃(ma:Addr) (us':List V) (more:List Pp),σ' = [some (.ref a),some (.ref b3),some (.ref pp),some (.ref lp),some (.ref pl),u1,some ov3,some (.ref ma),some (.int (i:Nat)),some (.int way)]/\H' ma=some (.tup us')/\cC H' us' more/\(∀c∈more,cn xs c.2)/\0<more.length/\more.length<=400/\cy H' b3/\Fix b3 H16 H',?_
      . exists _,rfl,rfl,_,rfl
        obtain⟨us,hus,hpus⟩:=W16.pp;refine b5 (λ hc=>?_) (λ hc=>?_)
        . obtain⟨pq,vq,epq,e1,rvs⟩:=bg.bQ (show bg H16 (.ref pp) (.tuple (ps.map eN)) from rp16)
          cases epq;refine⟨_,rfl,_,rfl,_,rfl,pp,_,rfl,.inr (au.of e1),b3,pa3,us,_,xs,_,rfl,B16,hus,hpus,W16.tok,hzz,hx50,W16.p0,W16.oM,λ t us' more H18 ht hv hk h0 h4 B18 X18=>?_⟩;exact⟨t,us',more,rfl,ht,hv,hk,h0,h4,B18,X18⟩
        . exact⟨pa3,us,_,rfl,hus,hpus,W16.tok,W16.p0,W16.oM,B16,Fix.refl b3 H16⟩
      rintro σ' H18 ⟨ma,us',more,rfl,hma,hmv,hmk,hm0,hm4,B18,X18⟩;have kp18:∀p zs,H16 p=some (.tup zs)->H18 p=some (.tup zs):=λ p zs e=>X18 p _ e (B16.bK e)
      have W18:=W16.aM kp18;have rp18:=rp16.aM kp18 (bW ps);have s018:ah H H18:=ah.fK s016 nb3' X18;exists λ σ' H'=>∃(tv:V) (qs':List Piece),σ' = [some (.ref a),some (.ref b3),some (.ref pp),some (.ref lp),some (.ref pl),u1,some tv,some (.ref ma),some (.int (i:Nat)),some (.int way)]/\bg H' tv (eF qs')/\ef qs'/\j4 qs'/\Fix b3 H18 H',?_
      . exists _,rfl,rfl,_,rfl
        refine b5 (λ hc=>?_) (λ hc=>?_)
        . refine⟨_,rfl,_,rfl,b3,ov3,qs3,rfl,B18,W18.ro,W18.oJ,W18.lay,W18.bV,W18.q0,(by have:=W18.lt;omega),λ v qs' H19 g1 g2 g3 g4 g5 B19 X19=>?_⟩
          exact⟨v,qs',rfl,g1,g3,g4,X19⟩
        . exact⟨ov3,qs3,rfl,W18.ro,W18.oJ,W18.lay,Fix.refl b3 H18⟩
      rintro σ' H19 ⟨tv,qs',rfl,htv,inq',layq',X19⟩;have kp19:∀p zs,H18 p=some (.tup zs)->H19 p=some (.tup zs):=λ p zs e=>X19 p _ e (B18.bK e)
      have rp19:=rp18.aM kp19 (bW ps);refine⟨_,rfl,_,rfl,_,rfl,.ref pp,tv,ma,ps,qs',us',more,xs,12,rfl,rp19,htv,kp19 _ _ hma,hmv.aM kp19,pok12,inq',layq',nok,hmk,hx50,⋯,hn0,⋯,hm0,⋯,λ H20 s20=>⟨_,rfl,?_⟩⟩;refine aY rfl ?_;exact⟨_,_,_,_,_,_,rfl,(λ p zs e=>s20 _ _ (kp19 _ _ (kp18 _ _ (kp16 _ _ e)))),(ah.fK s018 nb3' X19).trans s20⟩
    . rintro Hh H13 ⟨_,_,_,_,_,_,rfl,_,_⟩
      exact q _
end
theorem all_mk {l:PySem.W.OpenLaw} {w:World} {K:Hl} {h:Heap} {mg:Ch} {fa:Addr} (X:K.In h) (G:h.Ns mainGlobals mg) (hfa:mg "law" = some (.ref fa))
  {f0 f1 f2 f3 f4 f5 f6 f7 f8 f9 f10 f11 f12 f13 f14 f15 f16 f17 f18 f19 f20 f21 f22 f23 f24 f25 f26 f27 f28 f29 f30 f31 f32 f33 f34 f35 f36 f37 f38 f39 f40 f41 f42 f43 f44 f45 f46 f47 f48 f49 f50 f51 f52 f53 f54 f55 f56:Addr} {g0 g1 g2 g3 g4 g5 g6 g7 g8 g9 g10 g11 g12 g13 g14 g15 g16 g17 g18 g19 g20 g21 g22 g23 g24 g25 g26 g27 g28 g29 g30 g31 g32 g33 g34 g35 g36 g37 g38 g39 g40 g41 g42 g43 g44 g45 g46 g47 g48 g49 g50 g51 g52 g53 g54 g55 g56:FuncData}
  {aA:Addr} {dcA:Option Addr} {nA:Nat} {slA:Cl}
  {im:Tok}
  {aE:Addr} {epE:Nat} {s0:Addr} {hsE0:Int} {tkE0:Tok} {dcE0:Option Addr} {nnE0:Nat} {slE0:Cl}  {s1:Addr} {hsE1:Int} {tkE1:Tok} {dcE1:Option Addr} {nnE1:Nat} {slE1:Cl} {ttE1_0:Tok} {s2:Addr} {hsE2:Int} {tkE2:Tok} {dcE2:Option Addr} {nnE2:Nat} {slE2:Cl} {ttE2_0:Tok} {ttE2_1:Tok} {ttE2_2:Tok} {ttE2_3:Tok} {s3:Addr} {hsE3:Int} {tkE3:Tok} {dcE3:Option Addr} {nnE3:Nat} {slE3:Cl} {ttE3_0:Tok} {ttE3_1:Tok} {ttE3_2:Tok} {ttE3_3:Tok}
  {aD:Addr} {epD:Nat} {d0:Addr} {hsD0:Int} {tkD0:Tok} {dcD0:Option Addr} {nnD0:Nat} {slD0:Cl} {ttD0_0:Tok} {ttD0_1:Tok} {d1:Addr} {hsD1:Int} {tkD1:Tok} {dcD1:Option Addr} {nnD1:Nat} {slD1:Cl} {ttD1_0:Tok} {ttD1_1:Tok} {d2:Addr} {hsD2:Int} {tkD2:Tok} {dcD2:Option Addr} {nnD2:Nat} {slD2:Cl} {ttD2_0:Tok} {ttD2_1:Tok} {d3:Addr} {hsD3:Int} {tkD3:Tok} {dcD3:Option Addr} {nnD3:Nat} {slD3:Cl} {ttD3_0:Tok} {d4:Addr} {hsD4:Int} {tkD4:Tok} {dcD4:Option Addr} {nnD4:Nat} {slD4:Cl} {ttD4_0:Tok}
  {C:Addr}
  (z_len:HV K mainGlobals "len" = some none)
  (z_zip:HV K mainGlobals "zip" = some none)
  (z_tuple:HV K mainGlobals "tuple" = some none)
  (z_sorted:HV K mainGlobals "sorted" = some none)
  (z_set:HV K mainGlobals "set" = some none)
  (z_dict:HV K mainGlobals "dict" = some none)
  (z_min:HV K mainGlobals "min" = some none)
  (z_max:HV K mainGlobals "max" = some none)
  (z_range:HV K mainGlobals "range" = some none)
  (z_list:HV K mainGlobals "list" = some none)
  (z_int:HV K mainGlobals "int" = some none)
  (z_all:HV K mainGlobals "all" = some none)
  (z_isinstance:HV K mainGlobals "isinstance" = some none)
  (z_bool:HV K mainGlobals "bool" = some none)
  (gA:HV K mainGlobals "ALL" = some (some (.ref aA))) (lA:K.lookup aA=some ⟨.type "tuple",dcA,.seq #[.none,.none] nA,slA⟩)
  (g_MOST_TO_LEAD:HV K mainGlobals "MOST_TO_LEAD" = some (some (.int 60 im)))
  (gE:HV K mainGlobals "END_PARTS" = some (some (.ref aE))) (lE:K.lookup aE=some ⟨.type "dict",none,.dict #[⟨hsE0,.str "stop" tkE0,.ref s0⟩,⟨hsE1,.str "go" tkE1,.ref s1⟩,⟨hsE2,.str "less" tkE2,.ref s2⟩,⟨hsE3,.str "is" tkE3,.ref s3⟩] epE,#[]⟩) (qE0:K.lookup s0=some ⟨.type "tuple",dcE0,.seq #[] nnE0,slE0⟩) (qE1:K.lookup s1=some ⟨.type "tuple",dcE1,.seq #[.str "piece" ttE1_0] nnE1,slE1⟩) (qE2:K.lookup s2=some ⟨.type "tuple",dcE2,.seq #[.str "name" ttE2_0,.str "number" ttE2_1,.str "piece" ttE2_2,.str "piece" ttE2_3] nnE2,slE2⟩) (qE3:K.lookup s3=some ⟨.type "tuple",dcE3,.seq #[.str "name" ttE3_0,.str "number" ttE3_1,.str "piece" ttE3_2,.str "piece" ttE3_3] nnE3,slE3⟩)
  (gD:HV K mainGlobals "DEED_PARTS" = some (some (.ref aD))) (lD:K.lookup aD=some ⟨.type "dict",none,.dict #[⟨hsD0,.str "put" tkD0,.ref d0⟩,⟨hsD1,.str "copy" tkD1,.ref d1⟩,⟨hsD2,.str "add" tkD2,.ref d2⟩,⟨hsD3,.str "read" tkD3,.ref d3⟩,⟨hsD4,.str "tell" tkD4,.ref d4⟩] epD,#[]⟩) (qD0:K.lookup d0=some ⟨.type "tuple",dcD0,.seq #[.str "name" ttD0_0,.str "number" ttD0_1] nnD0,slD0⟩) (qD1:K.lookup d1=some ⟨.type "tuple",dcD1,.seq #[.str "name" ttD1_0,.str "name" ttD1_1] nnD1,slD1⟩) (qD2:K.lookup d2=some ⟨.type "tuple",dcD2,.seq #[.str "name" ttD2_0,.str "number" ttD2_1] nnD2,slD2⟩) (qD3:K.lookup d3=some ⟨.type "tuple",dcD3,.seq #[.str "name" ttD3_0] nnD3,slD3⟩) (qD4:K.lookup d4=some ⟨.type "tuple",dcD4,.seq #[.str "name" ttD4_0] nnD4,slD4⟩)
  (aCC:HV K mainGlobals "Row" = some (some (.ref C))) (pgC:Ji K C Str.empty=true) (hdC:JB K C=true) (poC:J0 K C=true) (saC:Ic K (.ref C) "__setattr__" = some (some (.builtin "object.__setattr__"))) (mkC:JC K C=true) (kcC:Iw K (.ref C)=true)
  (nC_members:Ic K (.ref C) "members" = some none)
  (nC_places:Ic K (.ref C) "places" = some none)
  (D0:bD K "parts_of_kind" ig f0 g0)
  (D1:bD K "ways_on" nc f1 g1)
  (D2:bD K "without_ways" iC f2 g2)
  (D3:bD K "names_of" lJ f3 g3)
  (D4:bD K "lies_in" ng f4 g4)
  (D5:bD K "part_below" jN f5 g5)
  (D6:bD K "part_from" j6 f6 g6)
  (D7:bD K "part_at" nh f7 g7)
  (D8:bD K "part_beside" i0 f8 g8)
  (D9:bD K "part_of" ni f9 g9)
  (D10:bD K "is_within" j7 f10 g10)
  (D11:bD K "facts_of" lL f11 g11)
  (D12:bD K "known" rP f12 g12)
  (D13:bD K "with_known" jO f13 g13)
  (D14:bD K "holds" rQ f14 g14)
  (D15:bD K "covers" pE f15 g15)
  (D16:bD K "moved" rR f16 g16)
  (D17:bD K "stretch_behind" gP f17 g17)
  (D18:bD K "behind" pG f18 g18)
  (D19:bD K "known_beyond" iE f19 g19)
  (D20:bD K "leads" rS f20 g20)
  (D21:bD K "start" rT f21 g21)
  (D22:qG K C "__init__" "Row.__init__" iF f22 g22)
  (D23:qG K C "place_of" "Row.place_of" iG f23 g23)
  (D24:bD K "reached" nq f24 g24)
  (D25:bD K "heads" rV f25 g25)
  (D26:bD K "copy_for" lN f26 g26)
  (D27:bD K "end_to" pH f27 g27)
  (D28:bD K "led_past" lO f28 g28)
  (D29:bD K "meets" rW f29 g29)
  (D30:bD K "same_end_holds" gQ f30 g30)
  (D31:bD K "end_holds" j8 f31 g31)
  (D32:bD K "piece_holds" i5 f32 g32)
  (D33:bD K "paper_holds" i6 f33 g33)
  (D34:bD K "_law_bag" nv f34 g34)
  (D35:bD K "_law_take" lQ f35 g35)
  (D36:bD K "_law_names" j9 f36 g36)
  (D37:bD K "_law_number" jP f37 g37)
  (D38:bD K "_law_deed" lR f38 g38)
  (D39:bD K "_law_end" ny f39 g39)
  (D40:bD K "_law_plan" lS f40 g40)
  (D41:bD K "_law_count" kh f41 g41)
  (D42:bD K "_law_part" lT f42 g42)
  (D43:bD K "_law_with" lU f43 g43)
  (D44:bD K "_law_told" lV f44 g44)
  (D45:bD K "_law_behind" jQ f45 g45)
  (D46:bD K "_law_covers" jR f46 g46)
  (D47:bD K "_law_table_of" iH f47 g47)
  (D48:bD K "_law_facts_spoilt" gg f48 g48)
  (D49:bD K "_law_end_spoilt" gR f49 g49)
  (D50:bD K "_law_other_spoilt" gh f50 g50)
  (D51:bD K "_law_paper_spoilt" gi f51 g51)
  (D52:bD K "_law_leads" kj f52 g52)
  (D53:bD K "_law_piece_holds" gC f53 g53)
  (D54:bD K "_law_paper_holds" gF f54 g54)
  (D55:bD K "_law_right" km f55 g55)
  (D56:bD K "law" nT f56 g56) :
  ∃fd:FuncData,(∀(s:Shared) (v:Value),BindsTo s fd ⟨[v],[]⟩ [("script",v)])/\∀base:Heap,K.In base->base.Ns mainGlobals mg->bA l.prog w K mg base bY 11 fa fd ["script"] (ur K):=by
 have e:=hfa.symm.trans (IW X G D56.a);cases e;have Z:Bl mg:=⟨Ij X G z_len,Ij X G z_zip,Ij X G z_tuple,Ij X G z_sorted,Ij X G z_set,Ij X G z_dict,Ij X G z_min,Ij X G z_max,Ij X G z_range,Ij X G z_list,Ij X G z_int,Ij X G z_all,Ij X G z_isinstance,Ij X G z_bool⟩;have GA:iz K mg aA:=⟨IW X G gA,_,_,_,lA⟩;have oS:mg "MOST_TO_LEAD" = some (.int 60 im):=IW X G g_MOST_TO_LEAD;have GE:va K mg aE s0 s1 s2 s3:=⟨⟨IW X G gE,_,_,lE,(.cons rfl rfl (.cons rfl rfl (.cons rfl rfl (.cons rfl rfl .nil))))⟩,⟨_,_,_,qE0,rfl,rfl,(by show 0<=sizeLine;decide),.nil⟩,⟨_,_,_,qE1,rfl,rfl,(by show 1<=sizeLine;decide),(.cons ⟨_,rfl⟩ .nil)⟩,⟨_,_,_,qE2,rfl,rfl,(by show 4<=sizeLine;decide),(.cons ⟨_,rfl⟩ (.cons ⟨_,rfl⟩ (.cons ⟨_,rfl⟩ (.cons ⟨_,rfl⟩ .nil))))⟩,⟨_,_,_,qE3,rfl,rfl,(by show 4<=sizeLine;decide),(.cons ⟨_,rfl⟩ (.cons ⟨_,rfl⟩ (.cons ⟨_,rfl⟩ (.cons ⟨_,rfl⟩ .nil))))⟩⟩;have GD:uw K mg aD d0 d1 d2 d3 d4:=⟨⟨IW X G gD,_,_,lD,(.cons rfl rfl (.cons rfl rfl (.cons rfl rfl (.cons rfl rfl (.cons rfl rfl .nil)))))⟩,⟨_,_,_,qD0,rfl,rfl,(by show 2<=sizeLine;decide),(.cons ⟨_,rfl⟩ (.cons ⟨_,rfl⟩ .nil))⟩,⟨_,_,_,qD1,rfl,rfl,(by show 2<=sizeLine;decide),(.cons ⟨_,rfl⟩ (.cons ⟨_,rfl⟩ .nil))⟩,⟨_,_,_,qD2,rfl,rfl,(by show 2<=sizeLine;decide),(.cons ⟨_,rfl⟩ (.cons ⟨_,rfl⟩ .nil))⟩,⟨_,_,_,qD3,rfl,rfl,(by show 1<=sizeLine;decide),(.cons ⟨_,rfl⟩ .nil)⟩,⟨_,_,_,qD4,rfl,rfl,(by show 1<=sizeLine;decide),(.cons ⟨_,rfl⟩ .nil)⟩⟩;have T:vo K C:=⟨⟨pgC,hdC,poC,saC⟩,nC_members,nC_places⟩;obtain⟨oc,od,kV,dc,pm,an,cd,ct,sl,rfl,lk,hcd⟩:=D56.F.ex;refine⟨Ia "law" "law" (eE nT) (dE nT) (aI nT) .none kV dc pm an cd ct,λ s v=>.of_eq rfl,λ base _ _=>?_⟩;have bd:=bu l.prog w base X G D0 (pI D0.F Z) (oH λ _ _ _ _ _ _ _ _ _=>rfl);have ad:=bu l.prog w base X G D1 (yL D1.F Z GE bd) (m8 λ _ _ _ _ _ _ _=>rfl);have be:=bu l.prog w base X G D2 (qL D2.F Z ad) (m8 λ _ _ _ _ _ _ _=>rfl);have oK:=bu l.prog w base X G D3 (wu D3.F Z GD GE bd) (m8 λ _ _ _ _ _ _ _=>rfl);have bn:=bu l.prog w base X G D4 (yM D4.F Z) (fj λ _ _ _ _ _ _ _ _=>rfl);have li:=bu l.prog w base X G D5 (ug D5.F Z) (fj λ _ _ _ _ _ _ _ _=>rfl);have lm:=bu l.prog w base X G D6 (vP D6.F Z) (fj λ _ _ _ _ _ _ _ _=>rfl);have ln:=bu l.prog w base X G D7 (yN D7.F Z bn) (fj λ _ _ _ _ _ _ _ _=>rfl);have mo:=bu l.prog w base X G D8 (rY D8.F Z) (fj λ _ _ _ _ _ _ _ _=>rfl);have on:=bu l.prog w base X G D9 (yO D9.F Z li lm ln mo) (vG λ _ _ _ _ _ _ _ _ _ _=>rfl);have nw:=bu l.prog w base X G D10 (vQ D10.F Z) (fj λ _ _ _ _ _ _ _ _=>rfl);have ca:=bu l.prog w base X G D11 (wx D11.F Z GA) (m8 λ _ _ _ _ _ _ _=>rfl);have o0:=bu l.prog w base X G D12 (Cm D12.F Z GA) (fj λ _ _ _ _ _ _ _ _=>rfl);have or:=bu l.prog w base X G D13 (uh D13.F Z GA ca) (oH λ _ _ _ _ _ _ _ _ _=>rfl);have v1:=bu l.prog w base X G D14 (Cn D14.F Z bn) (fj λ _ _ _ _ _ _ _ _=>rfl);have u8:=bu l.prog w base X G D15 (Aq D15.F Z GA nw) (fj λ _ _ _ _ _ _ _ _=>rfl);have nM:=bu l.prog w base X G D16 (Co D16.F Z) (fj λ _ _ _ _ _ _ _ _=>rfl);have nN:=bu l.prog w base X G D17 (nW D17.F Z GA nM) (fj λ _ _ _ _ _ _ _ _=>rfl);have cr:=bu l.prog w base X G D18 (Ar D18.F Z GA nN ca) (fj λ _ _ _ _ _ _ _ _=>rfl);have ci:=bu l.prog w base X G D19 (qM D19.F Z GA ad o0 on or) (fj λ _ _ _ _ _ _ _ _=>rfl);have db:=bu l.prog w base X G D20 (Cq D20.F Z ci ad) (fj λ _ _ _ _ _ _ _ _=>rfl);have sn:=bu l.prog w base X G D21 (Cr D21.F Z oK) (m8 λ _ _ _ _ _ _ _=>rfl);have sw:=DT l.prog w base X G aCC mkC kcC D22 (qN D22.F Z T) (fj λ _ _ _ _ _ _ _ _=>rfl);have sB:=DS l.prog w base mg T.cl D23 (qO D23.F Z T) (fj λ _ _ _ _ _ _ _ _=>rfl);have oN:=bu l.prog w base X G D24 (yP D24.F Z ad) (m8 λ _ _ _ _ _ _ _=>rfl);have pi:=bu l.prog w base X G D25 (Cs D25.F Z oN ad) (m8 λ _ _ _ _ _ _ _=>rfl);have sK:=bu l.prog w base X G D26 (wy D26.F Z) (vG λ _ _ _ _ _ _ _ _ _ _=>rfl);have tz:=bu l.prog w base X G D27 (As D27.F Z be) (fj λ _ _ _ _ _ _ _ _=>rfl);have jp:=bu l.prog w base X G D28 (wz D28.F Z oS T pi sn sw sB cr db sK tz) (fj λ _ _ _ _ _ _ _ _=>rfl);have dL:=bu l.prog w base X G D29 (Ct D29.F Z u8) (fj λ _ _ _ _ _ _ _ _=>rfl);have ul:=bu l.prog w base X G D30 (nX D30.F Z ad ci dL) (vG λ _ _ _ _ _ _ _ _ _ _=>rfl);have ut:=bu l.prog w base X G D31 (vR D31.F Z be ul db dL) (vG λ _ _ _ _ _ _ _ _ _ _=>rfl);have v4:=bu l.prog w base X G D32 (rZ D32.F Z ut cr) (vG λ _ _ _ _ _ _ _ _ _ _=>rfl);have bm:=bu l.prog w base X G D33 (r9 D33.F Z v1 v4) (oH λ _ _ _ _ _ _ _ _ _=>rfl);have ge:=bu l.prog w base X G D34 (yQ D34.F Z) (fj λ _ _ _ _ _ _ _ _=>rfl);have ac:=bu l.prog w base X G D35 (wA D35.F Z) (fj λ _ _ _ _ _ _ _ _=>rfl);have v6:=bu l.prog w base X G D36 (vS D36.F Z ac) (m8 λ _ _ _ _ _ _ _=>rfl);have dR:=bu l.prog w base X G D37 (ui D37.F Z ac) (m8 λ _ _ _ _ _ _ _=>rfl);have v8:=bu l.prog w base X G D38 (wB D38.F Z ac dR) (fj λ _ _ _ _ _ _ _ _=>rfl);have wf:=bu l.prog w base X G D39 (yR D39.F Z ac dR) (oH λ _ _ _ _ _ _ _ _ _=>rfl);have gt:=bu l.prog w base X G D40 (wC D40.F Z ac v6 v8 wf) (oH λ _ _ _ _ _ _ _ _ _=>rfl);have AC:=bu l.prog w base X G D41 (vT D41.F Z ac) (fj λ _ _ _ _ _ _ _ _=>rfl);have wP:=bu l.prog w base X G D42 (wF D42.F Z) (vG λ _ _ _ _ _ _ _ _ _ _=>rfl);have am:=bu l.prog w base X G D43 (wG D43.F Z) (oH λ _ _ _ _ _ _ _ _ _=>rfl);have io:=bu l.prog w base X G D44 (wH D44.F Z) (m8 λ _ _ _ _ _ _ _=>rfl);have xz:=bu l.prog w base X G D45 (uj D45.F Z am) (fj λ _ _ _ _ _ _ _ _=>rfl);have xL:=bu l.prog w base X G D46 (uk D46.F Z) (fj λ _ _ _ _ _ _ _ _=>rfl);have bi:=bu l.prog w base X G D47 (qP D47.F Z) (m8 λ _ _ _ _ _ _ _=>rfl);have ww:=bu l.prog w base X G D48 (mn D48.F Z bi ac io am) (fj λ _ _ _ _ _ _ _ _=>rfl);have wn:=bu l.prog w base X G D49 (nY D49.F Z ac) (oH λ _ _ _ _ _ _ _ _ _=>rfl);have kS:=bu l.prog w base X G D50 (mq D50.F Z ac wn) (fj λ _ _ _ _ _ _ _ _=>rfl);have ii:=bu l.prog w base X G D51 (mr D51.F Z ac ww) (oH λ _ _ _ _ _ _ _ _ _=>rfl);have wS:=bu l.prog w base X G D52 (vU D52.F Z wP am) (fj λ _ _ _ _ _ _ _ _=>rfl);have zn:=bu l.prog w base X G D53 (nB D53.F Z wS xz bi xL) (vG λ _ _ _ _ _ _ _ _ _ _=>rfl);have At:=bu l.prog w base X G D54 (nE D54.F Z zn) (oH λ _ _ _ _ _ _ _ _ _=>rfl);have ap:=bu l.prog w base X G D55 (vV D55.F Z bm At) (oH λ _ _ _ _ _ _ _ _ _=>rfl);exact Fj D56.F Z T ge ac AC gt jp bm ii kS ap
theorem walk {l:PySem.W.OpenLaw}{q:Program}{loose:List Str}{XP:(Str->Option Value)->Heap->Prop}{YP:World->Heap->Prop}{d:DefRec}{K:Params->Hl}(hn:l.most=some 63)(hdf:d.params.defaults=[])
  (hY:∀(w:World) (h:Heap),YP w h->(K w.params).In h)
  (F:∀(w:World) (mg:Ch) (fa:Addr) (h:Heap),(K w.params).In h->h.Ns mainGlobals mg->mg d.name=some (.ref fa) ->
   ∃fd:FuncData,(∀(s:Shared) (u:Value),BindsTo s fd ⟨[u],[]⟩ [("script",u)])/\∀base:Heap,(K w.params).In base->base.Ns mainGlobals mg->bA l.prog w (K w.params) mg base bY 11 fa fd ["script"] (ur (K w.params))) :
  PySem.W.WalkO q loose XP YP l.row.toRowW d [] (λ f vs=>PySem.call f vs) :=
 L2.Dj (n:=63) (k:=11) (x := "script") (CX:=λ _=>bY) (sp:=λ w=>ur (K w.params)) hn ⋯ hdf ⟨rfl,by decide,by decide⟩ hY F (λ _ _ a ns hl _ hS=>⟨a,ns,rfl,hS,hl,λ _=>rfl⟩) λ _ _ _ _ _ z=>z
end My
namespace PySem.W.Fast
theorem tw11918630033483724143:1=1:=rfl
theorem tw18405133706005450958:1=1:=rfl
theorem tw6167557083271217215:1=1:=rfl
theorem tw17144308688158972201:1=1:=rfl
theorem tw4988325277711256243:1=1:=rfl
theorem tw450576302863071473:1=1:=rfl
theorem tw9476780026647781443:1=1:=rfl
theorem tw12769162939223765093:1=1:=rfl
theorem tw3102391348952084101:1=1:=rfl
theorem tw5896802533170798389:1=1:=rfl
theorem tw3882537047241072034:1=1:=rfl
theorem tw5609646896926790412:1=1:=rfl
theorem tw4488983564611103419:1=1:=rfl
theorem tw7364741510941257586:1=1:=rfl
theorem tw17994911931520073396:1=1:=rfl
theorem tw15057308309124135214:1=1:=rfl
theorem tw17304737334695550141:1=1:=rfl
theorem tw14301564052856666549:1=1:=rfl
theorem tw17775521529674331508:1=1:=rfl
theorem tw5332757592267870098:1=1:=rfl
theorem tw7933724380142862829:1=1:=rfl
theorem tw889741182188233969:1=1:=rfl
theorem tw12250656862581941210:1=1:=rfl
theorem tw5485929022013537551:1=1:=rfl
theorem tw18022020388057489487:1=1:=rfl
theorem tw145077511598329057:1=1:=rfl
theorem tw281893345748390316:1=1:=rfl
theorem tw12377615653605566142:1=1:=rfl
theorem tw11730618954078139982:1=1:=rfl
theorem tw659760034625383895:1=1:=rfl
theorem tw6825060026733735796:1=1:=rfl
theorem tw6724729190223598546:1=1:=rfl
theorem tw16716023507471879635:1=1:=rfl
theorem tw17558278052109199533:1=1:=rfl
theorem tw2541459651905340972:1=1:=rfl
theorem tw2511253152395265617:1=1:=rfl
theorem tw8863958885268552517:1=1:=rfl
theorem tw5782790405173424408:1=1:=rfl
theorem tw6472521774205350044:1=1:=rfl
theorem tw14261049107250505844:1=1:=rfl
theorem tw15521909311634345386:1=1:=rfl
theorem tw15387276732586999219:1=1:=rfl
theorem tw7532778900598920623:1=1:=rfl
theorem tw15145799210477154790:1=1:=rfl
theorem tw15184115067230765307:1=1:=rfl
theorem tw6561593991765304693:1=1:=rfl
theorem tw4165827252938611939:1=1:=rfl
theorem tw13705107634171921949:1=1:=rfl
theorem tw15739091212724798101:1=1:=rfl
theorem tw5164009826821924823:1=1:=rfl
theorem tw18014006933296957419:1=1:=rfl
theorem tw17066451853190694895:1=1:=rfl
theorem tw7025646494492556517:1=1:=rfl
theorem tw3497466559532370623:1=1:=rfl
theorem tw5344647577815864364:1=1:=rfl
theorem tw8044400300241068885:1=1:=rfl
theorem tw8849943666985648946:1=1:=rfl
theorem tw16402389724596604044:1=1:=rfl
theorem tw13101744271882370262:1=1:=rfl
theorem tw10160128697655193809:1=1:=rfl
theorem tw76928510960730471:1=1:=rfl
theorem tw14524230556449940386:1=1:=rfl
theorem tw1525390758238550402:1=1:=rfl
theorem tw12270549479359478627:1=1:=rfl
theorem tw18081278888328758840:1=1:=rfl
theorem tw12242221766999349327:1=1:=rfl
theorem tw6987688420382781653:1=1:=rfl
theorem tw14119956157701117422:1=1:=rfl
theorem tw16252587656963254981:1=1:=rfl
theorem tw8040732013163334492:1=1:=rfl
theorem tw9738054436224281492:1=1:=rfl
theorem tw11485190689900664994:1=1:=rfl
theorem tw7685138772977427943:1=1:=rfl
theorem tw18382844194694606627:1=1:=rfl
theorem tw16941573440790903995:1=1:=rfl
theorem tw10965950712368866834:1=1:=rfl
theorem tw478670399662863096:1=1:=rfl
theorem tw8297293997828517007:1=1:=rfl
theorem tw238779517885608985:1=1:=rfl
theorem tw11122958725762127644:1=1:=rfl
theorem tw9343278922427133098:1=1:=rfl
theorem tw12881263909563693086:1=1:=rfl
theorem tw10619752038480547521:1=1:=rfl
theorem tw6376528448337461674:1=1:=rfl
theorem tw8835331777670912060:1=1:=rfl
theorem tw131699738415280403:1=1:=rfl
theorem tw9502362223203436358:1=1:=rfl
theorem tw17934789383193094512:1=1:=rfl
theorem tw9592235081822668819:1=1:=rfl
theorem tw9986693194850888954:1=1:=rfl
theorem tw12509109891943813037:1=1:=rfl
theorem tw10178208715297482843:1=1:=rfl
theorem tw2409784035580843452:1=1:=rfl
theorem tw13958795809448575168:1=1:=rfl
theorem tw6274294407005987925:1=1:=rfl
theorem tw10301081217267613497:1=1:=rfl
theorem tw5470163594267882142:1=1:=rfl
theorem tw180396329275961421:1=1:=rfl
theorem tw4548886329623030975:1=1:=rfl
theorem tw732237140153716894:1=1:=rfl
theorem tw3349876863278347202:1=1:=rfl
theorem tw17902017784439551628:1=1:=rfl
theorem tw6073407075585771890:1=1:=rfl
theorem tw6731084078903118094:1=1:=rfl
theorem tw17580233532992462543:1=1:=rfl
theorem tw2298936992016188214:1=1:=rfl
theorem tw9556702245360840674:1=1:=rfl
theorem tw15681093368405608978:1=1:=rfl
theorem tw1008132330476434011:1=1:=rfl
theorem tw11482162917538935178:1=1:=rfl
theorem tw1221515820162493875:1=1:=rfl
theorem tw6462855595330517833:1=1:=rfl
theorem tw17353723706633047009:1=1:=rfl
theorem tw5525776244275700392:1=1:=rfl
theorem tw3412020861770087669:1=1:=rfl
theorem tw3772087452798297963:1=1:=rfl
theorem tw7084728092063283316:1=1:=rfl
theorem tw16101749194455001832:1=1:=rfl
theorem tw17247014474655348746:1=1:=rfl
theorem tw3699200366835978414:1=1:=rfl
theorem tw3244205037994185186:1=1:=rfl
theorem tw413800667221492258:1=1:=rfl
theorem tw9775186016612407880:1=1:=rfl
theorem tw4023683568779208815:1=1:=rfl
theorem tw10526106722522082870:1=1:=rfl
theorem tw3800379362540661130:1=1:=rfl
theorem tw3213581514055816102:1=1:=rfl
theorem tw18004809399342956821:1=1:=rfl
theorem tw11810446025998532942:1=1:=rfl
theorem tw5134093959267425708:1=1:=rfl
theorem tw15950382625420570908:1=1:=rfl
theorem tw12033313386475241061:1=1:=rfl
theorem tw9115441445326011850:1=1:=rfl
theorem tw8682156863045115355:1=1:=rfl
theorem tw2520841668392873372:1=1:=rfl
theorem tw14964147190246700386:1=1:=rfl
theorem tw10303000585390365245:1=1:=rfl
theorem tw7448347967236325385:1=1:=rfl
theorem tw4970677830894172360:1=1:=rfl
theorem tw3216426138797079179:1=1:=rfl
theorem tw11487405720739930543:1=1:=rfl
end PySem.W.Fast
open PySem PySem.W PyProof.Rows
set_option maxRecDepth 100000 in
set_option maxHeartbeats 0 in
theorem PySem.Challenge.cw_ledpast_k15_papers_by_hand_holds : PySem.Challenge.rw_ledpast_k15_papers_by_hand.Holds := by
 w_on; o_law; k_head; (case hw => w_witness2)
 k_fill
 refine My.walk (l := PySem.Challenge.rw_ledpast_k15_papers_by_hand) rfl rfl (fun w h Y => PySem.W.kIn_of Y) ?F
 case F =>
  intro w mg fa h KX G hmg
  refine' My.all_mk KX G hmg ?z_len ?z_zip ?z_tuple ?z_sorted ?z_set ?z_dict ?z_min ?z_max ?z_range ?z_list ?z_int ?z_all ?z_isinstance ?z_bool ?gA ?lA ?g_MOST_TO_LEAD ?gE ?lE ?qE0 ?qE1 ?qE2 ?qE3 ?gD ?lD ?qD0 ?qD1 ?qD2 ?qD3 ?qD4 ?aCC ?pgC ?hdC ?poC ?saC ?mkC ?kcC ?nC_members ?nC_places (L2.def_mk ?a0 ?l0 ?c0 ?k0) (L2.def_mk ?a1 ?l1 ?c1 ?k1) (L2.def_mk ?a2 ?l2 ?c2 ?k2) (L2.def_mk ?a3 ?l3 ?c3 ?k3) (L2.def_mk ?a4 ?l4 ?c4 ?k4) (L2.def_mk ?a5 ?l5 ?c5 ?k5) (L2.def_mk ?a6 ?l6 ?c6 ?k6) (L2.def_mk ?a7 ?l7 ?c7 ?k7) (L2.def_mk ?a8 ?l8 ?c8 ?k8) (L2.def_mk ?a9 ?l9 ?c9 ?k9) (L2.def_mk ?a10 ?l10 ?c10 ?k10) (L2.def_mk ?a11 ?l11 ?c11 ?k11) (L2.def_mk ?a12 ?l12 ?c12 ?k12) (L2.def_mk ?a13 ?l13 ?c13 ?k13) (L2.def_mk ?a14 ?l14 ?c14 ?k14) (L2.def_mk ?a15 ?l15 ?c15 ?k15) (L2.def_mk ?a16 ?l16 ?c16 ?k16) (L2.def_mk ?a17 ?l17 ?c17 ?k17) (L2.def_mk ?a18 ?l18 ?c18 ?k18) (L2.def_mk ?a19 ?l19 ?c19 ?k19) (L2.def_mk ?a20 ?l20 ?c20 ?k20) (L2.def_mk ?a21 ?l21 ?c21 ?k21) (L2.met_mk ?a22 ?i22 ?l22 ?c22 ?k22) (L2.met_mk ?a23 ?i23 ?l23 ?c23 ?k23) (L2.def_mk ?a24 ?l24 ?c24 ?k24) (L2.def_mk ?a25 ?l25 ?c25 ?k25) (L2.def_mk ?a26 ?l26 ?c26 ?k26) (L2.def_mk ?a27 ?l27 ?c27 ?k27) (L2.def_mk ?a28 ?l28 ?c28 ?k28) (L2.def_mk ?a29 ?l29 ?c29 ?k29) (L2.def_mk ?a30 ?l30 ?c30 ?k30) (L2.def_mk ?a31 ?l31 ?c31 ?k31) (L2.def_mk ?a32 ?l32 ?c32 ?k32) (L2.def_mk ?a33 ?l33 ?c33 ?k33) (L2.def_mk ?a34 ?l34 ?c34 ?k34) (L2.def_mk ?a35 ?l35 ?c35 ?k35) (L2.def_mk ?a36 ?l36 ?c36 ?k36) (L2.def_mk ?a37 ?l37 ?c37 ?k37) (L2.def_mk ?a38 ?l38 ?c38 ?k38) (L2.def_mk ?a39 ?l39 ?c39 ?k39) (L2.def_mk ?a40 ?l40 ?c40 ?k40) (L2.def_mk ?a41 ?l41 ?c41 ?k41) (L2.def_mk ?a42 ?l42 ?c42 ?k42) (L2.def_mk ?a43 ?l43 ?c43 ?k43) (L2.def_mk ?a44 ?l44 ?c44 ?k44) (L2.def_mk ?a45 ?l45 ?c45 ?k45) (L2.def_mk ?a46 ?l46 ?c46 ?k46) (L2.def_mk ?a47 ?l47 ?c47 ?k47) (L2.def_mk ?a48 ?l48 ?c48 ?k48) (L2.def_mk ?a49 ?l49 ?c49 ?k49) (L2.def_mk ?a50 ?l50 ?c50 ?k50) (L2.def_mk ?a51 ?l51 ?c51 ?k51) (L2.def_mk ?a52 ?l52 ?c52 ?k52) (L2.def_mk ?a53 ?l53 ?c53 ?k53) (L2.def_mk ?a54 ?l54 ?c54 ?k54) (L2.def_mk ?a55 ?l55 ?c55 ?k55) (L2.def_mk ?a56 ?l56 ?c56 ?k56)
  case gA | lA | g_MOST_TO_LEAD | gE | lE | qE0 | qE1 | qE2 | qE3 | gD | lD | qD0 | qD1 | qD2 | qD3 | qD4 | aCC | pgC | hdC | poC | saC | mkC | kcC | nC_members | nC_places | a0 | l0 | c0 | k0 | a1 | l1 | c1 | k1 | a2 | l2 | c2 | k2 | a3 | l3 | c3 | k3 | a4 | l4 | c4 | k4 | a5 | l5 | c5 | k5 | a6 | l6 | c6 | k6 | a7 | l7 | c7 | k7 | a8 | l8 | c8 | k8 | a9 | l9 | c9 | k9 | a10 | l10 | c10 | k10 | a11 | l11 | c11 | k11 | a12 | l12 | c12 | k12 | a13 | l13 | c13 | k13 | a14 | l14 | c14 | k14 | a15 | l15 | c15 | k15 | a16 | l16 | c16 | k16 | a17 | l17 | c17 | k17 | a18 | l18 | c18 | k18 | a19 | l19 | c19 | k19 | a20 | l20 | c20 | k20 | a21 | l21 | c21 | k21 | a22 | i22 | l22 | c22 | k22 | a23 | i23 | l23 | c23 | k23 | a24 | l24 | c24 | k24 | a25 | l25 | c25 | k25 | a26 | l26 | c26 | k26 | a27 | l27 | c27 | k27 | a28 | l28 | c28 | k28 | a29 | l29 | c29 | k29 | a30 | l30 | c30 | k30 | a31 | l31 | c31 | k31 | a32 | l32 | c32 | k32 | a33 | l33 | c33 | k33 | a34 | l34 | c34 | k34 | a35 | l35 | c35 | k35 | a36 | l36 | c36 | k36 | a37 | l37 | c37 | k37 | a38 | l38 | c38 | k38 | a39 | l39 | c39 | k39 | a40 | l40 | c40 | k40 | a41 | l41 | c41 | k41 | a42 | l42 | c42 | k42 | a43 | l43 | c43 | k43 | a44 | l44 | c44 | k44 | a45 | l45 | c45 | k45 | a46 | l46 | c46 | k46 | a47 | l47 | c47 | k47 | a48 | l48 | c48 | k48 | a49 | l49 | c49 | k49 | a50 | l50 | c50 | k50 | a51 | l51 | c51 | k51 | a52 | l52 | c52 | k52 | a53 | l53 | c53 | k53 | a54 | l54 | c54 | k54 | a55 | l55 | c55 | k55 | a56 | l56 | c56 | k56 | z_len | z_zip | z_tuple | z_sorted | z_set | z_dict | z_min | z_max | z_range | z_list | z_int | z_all | z_isinstance | z_bool => k_is
