import PyProof.Rows.All
import Wide.All
import OpenK.AllK
import Wide.FinOn
import Lean
import PyProof.EqAt
import PyProof.EqKinds
import PyProof.TupleCall
import PyProof.NeData
import Wide.Seal
import Wide.OfPy
import KE.KSetDisp
import PyProof.DictCompW
import PyProof.EnumMake
import PyProof.Draws
import PyProof.ListMulRoad
import PyProof.TupleOfStr
import PyProof.ListRange
import PySem.Challenge.RW_ledpast_k44_keepers_by_hand
open List renaming length_map→Ig
open PySem.W renaming Frag→Ih
open List renaming mem_cons→Ii
open Nat renaming le_refl→Ij
open PySem.Heap renaming lt_size→Ik
open List renaming mem_singleton→Il
open PySem.Heap renaming get?_push_of_some→Im
open List renaming length_append→Io
open PySem.Heap renaming get?_push_size→Ip
open Nat renaming ne_of_lt→Iq
open Nat renaming le_trans→Ir
open List renaming getElem?_map→Iu
open List renaming mem_map→Iv
open List renaming map_append→Iw
open List renaming mem_cons_self→Iy
open List renaming mem_cons_of_mem→Iz
open Option renaming some→IA
open List renaming mem_of_getElem?→IB
open List renaming mem_append→IC
open List renaming size_toArray→ID
open List renaming getElem?_eq_some_iff→IE
open Nat renaming zero_le→IF
open Or renaming inr→IG
open List renaming length_take→IH
open List renaming take_length→II
open Nat renaming lt_irrefl→IJ
open List renaming map_cons→IK
open PySem.Heap renaming size_push→IL
open Nat renaming lt_of_lt_of_le→IM
open List renaming take_add_one→IP
open PySem.W renaming nsIn→IQ
open Nat renaming le_of_lt→IS
open PySem.Heap renaming SameBut→IT
open Bool renaming false_ne_true→IU
open List renaming mem_append_right→IV
open PySem.W renaming findIn→IW
open List renaming replicate→IX
open List renaming not_mem_nil→IY
open List renaming range→IZ
open List renaming length_cons→I0
open Bool renaming and_eq_true→Ja
open List renaming append_assoc→Jc
open Nat renaming lt_succ_of_lt→Jd
open PySem.W renaming fnOf→Je
open List renaming mem_filter→Jf
open Array renaming length_toList→Jg
open List renaming mem_append_left→Jh
open Nat renaming ne_of_gt→Ji
open PySem.W renaming mg_none_of→Jj
open Nat renaming lt_succ_self→Jk
open Nat renaming le_succ→Jl
open List renaming lookup→Jm
open PySem.W renaming keepIn→Jn
open List renaming length→Jo
open List renaming length_set→Jp
open List renaming Pairwise→Jq
open List renaming length_filter_le→Jr
open List renaming map_map→Js
open PySem.Heap renaming get?_update_other→Jt
open Bool renaming false_eq_true→Ju
open List renaming filter_append→Jv
open List renaming mem_range→Jw
open PySem.W renaming emptyDict→Jx
open List renaming nodup_cons→Jy
open PySem.Heap renaming get?_update_self→Jz
open List renaming lookup_cons→JA
open Nat renaming le_add_right→JB
open PySem.Around renaming under_plainId→JC
open PySem.W renaming instObj→JD
open Int renaming toNat_natCast→JE
open List renaming append_nil→JF
open List renaming getElem?_append_left→JG
open PySem.W renaming codeIn→JH
open List renaming length_drop→JI
open List renaming foldl_cons→JJ
open List renaming forIn_cons→JK
open List renaming nodup_append→JL
open List renaming mem_flatMap→JM
open PySem.W renaming mg_of→JN
open List renaming filterMap_cons→JO
open PySem.W renaming plainGet→JP
open List renaming any_cons→JQ
open List renaming find?_cons→JR
open List renaming nodup_nil→JS
open List renaming getElem?_eq_none→JT
open List renaming all_eq_true→JU
open Int renaming toNat→JV
open List renaming mem_of_mem_take→JW
open List renaming map_set→JX
open Bool renaming eq_iff_iff→JY
open PySem.W renaming hasDictIn→JZ
open PySem.W renaming isFn→J0
open PySem.W renaming makesIn→J1
open List renaming replicate_succ→J2
open Bool renaming and_false→J3
open Nat renaming lt_of_le_of_lt→J4
open List renaming length_range→J5
open Nat renaming le_of_succ_le→J6
open Bool renaming true_and→J7
open List renaming filterMap→J8
open List renaming foldl_append→J9
open List renaming pairwise_cons→Ka
open List renaming filter_cons_of_neg→Kb
open List renaming getElem?_of_mem→Kc
open Bool renaming false_and→Kd
open PySem.W renaming lookIn→Ke
open PySem.W renaming plainOver→Kf
open List renaming of_mem_zip→Kg
open List renaming getElem?_append_right→Kh
open List renaming length_replicate→Ki
open List renaming filterMap_map→Kj
open List renaming all_cons→Kk
open List renaming flatten_cons→Kl
open Array renaming getElem?_toList→Km
open List renaming getElem_mem→Kn
open List renaming forIn_nil→Ko
open Option renaming map_some→Kp
open List renaming length_nil→Kq
open List renaming filter_cons→Kr
open Nat renaming lt_trans→Ks
open List renaming map_congr_left→Kt
open List renaming length_eq_zero_iff→Ku
open Nat renaming not_succ_le_self→Kv
open List renaming filter_cons_of_pos→Kw
open PySem.W renaming kdsCode→Kx
open List renaming mem_or_eq_of_mem_set→Ky
open List renaming range_succ→Kz
open Nat renaming le_succ_of_le→KA
open Int renaming zero_add→KC
open PySem.W renaming methodObj→KD
open List renaming getElem?_set_self→KG
open List renaming mem_filterMap→KH
open PySem.W renaming plainGet_of→KI
open PySem.W renaming callWith_K→KJ
open PySem.Heap renaming get?_push_cases→KL
open List renaming take_of_length_le→KN
open List renaming getElem?_eq_getElem→KO
open List renaming find?_cons_of_pos→KP
open List renaming find?_cons_of_neg→KQ
open Option renaming toList_some→KR
open PySem renaming wpAny_bind→KS
open PySem renaming wpAny_pure→KU
open PySem renaming wpAny_mono→KW
open PySem renaming wpAny_holding→KY
open PySem renaming wpAny_call_entry→KZ
open PySem renaming wpAny_newObj_type→K0
open PySem renaming wpAny_field→K1
open PySem renaming wpAny_seqItems→K2
open PySem renaming codeAny_builtin→K3
open PySem renaming wpAny_truthy_bool→K4
open PySem renaming wpAny_rule→K5
open PySem renaming codeAny_mono→K6
open PySem renaming wpAny_setField→K7
open PySem renaming wpAny_standAt→K8
open PySem renaming wpAny_passesOwn→K9
open PySem renaming wpAny_pyIter_tuple→La
open PySem renaming wpAny_typeOf→Lb
open PySem renaming wpAny_attempt→Lc
open PySem renaming wpAny_setField_rec→Le
open PySem renaming wpAny_setState_of→Lf
open PySem renaming wpAny_Call_Name_kw→Lg
open PySem renaming wpAny_isInstance→Lh
open PySem renaming wpAny_setEntries_of→Li
open PySem renaming wpAny_alloc→Lj
open PySem renaming wpAny_execs_nil→Lk
open PySem renaming wpAny_onRaise→Ll
open PySem renaming wpAny_pyIter_zip→Lm
open PySem renaming wpAny_askSetting→Ln
open PySem renaming wpAny_ite_split→Lo
open PySem renaming wpAny_fieldsOf→Lq
open PySem renaming wpAny_pyIter_enum→Lr
open PySem renaming wpAny_pyHash_str→Ls
open PySem renaming wpAny_pyIter_list→Lu
open PySem renaming wpAny_sequenceKey→Lv
open PySem renaming wpAny_updateSeq_pair→Lw
open PySem renaming wpAny_setEpoch_of→Lx
open PySem renaming wpAny_comprehension_free→Ly
open PySem renaming wpAny_letOwnedTupleGo_zip→Lz
set_option maxHeartbeats 8000000
set_option Elab.async false
set_option linter.all false
set_option maxRecDepth 100000
namespace L2
open PySem PySem.Spec PyProof.Rows
abbrev Key:=Sum Int Str
def iX:Key->Value->Bool
 | .inl k,v=>Value.isInt k v
 | .inr x,v=>Value.isStrOf x v
def G6 (w:World):Key->Int
 | .inl k=>hashInt k
 | .inr x=>hashStr w x
theorem cX:∀{k:Key} {v:Value},iX k v=true->(∃i t,k=Sum.inl i/\v=Value.int i t)\/(∃x t,k=Sum.inr x/\v=Value.str x t)
 | .inl i,v,h=>by
  obtain⟨t,e⟩:=Value.isInt_shape (k:=i) (v:=v) h
  exact .inl ⟨i,t,rfl,e⟩
 | .inr x,v,h=>by
  obtain⟨t,e⟩:=Value.isStrOf_shape (x:=x) (v:=v) h
  exact .inr ⟨x,t,rfl,e⟩
theorem zz (i:Int)(t:Tok):iX (.inl i) (.int i t)=true:=by simp [iX,Value.isInt]
theorem zA (x:Str)(t:Tok):iX (.inr x) (.str x t)=true:=by simp [iX,Value.isStrOf]
theorem ED (a b:Int):decide ((Sum.inl a:Key)=Sum.inl b)=(a == b):=by
 by_cases e:a=b
 ·subst e;simp
 ·have h:¬(Sum.inl a:Key)=Sum.inl b:=fun q=>e (Sum.inl.inj q)
  rw [decide_eq_false h]
  exact (beq_eq_false_iff_ne.mpr e).symm
theorem EE (a b:Str):decide ((Sum.inr a:Key)=Sum.inr b)=decide (a=b):=by
 by_cases e:a=b
 ·subst e;simp
 ·have h:¬(Sum.inr a:Key)=Sum.inr b:=fun q=>e (Sum.inr.inj q)
  rw [decide_eq_false h,decide_eq_false e]
theorem EF (a:Int)(b:Str):decide ((Sum.inl a:Key)=Sum.inr b)=false:=decide_eq_false (fun q=>nomatch q)
theorem EG (a:Str)(b:Int):decide ((Sum.inr a:Key)=Sum.inl b)=false:=decide_eq_false (fun q=>nomatch q)
def aU (prog:Program)(w:World):PySem.KeyKind prog w Key where
 is:=iX
 hash:=G6 w
 inj:=fun v a b ha hb=>by
  rcases cX ha with ⟨i,t,rfl,rfl⟩ | ⟨x,t,rfl,rfl⟩
  ·rcases cX hb with ⟨j,u,rfl,e⟩ | ⟨y,u,rfl,e⟩
   ·injection e with e1 _;rw [e1]
   ·exact nomatch e
  ·rcases cX hb with ⟨j,u,rfl,e⟩ | ⟨y,u,rfl,e⟩
   ·exact nomatch e
   ·injection e with e1 _;rw [e1]
 byValue:=fun k v h=>by
  rcases cX h with ⟨i,t,rfl,rfl⟩ | ⟨x,t,rfl,rfl⟩ <;> rfl
 pyHash:=fun hv h=>by
  rcases cX hv with ⟨i,t,rfl,rfl⟩ | ⟨x,t,rfl,rfl⟩
  ·exact wpAny_pyHash_int h
  ·exact Ls h
 eqBool:=fun hu hv h=>by
  rcases cX hu with ⟨i,t,rfl,rfl⟩ | ⟨x,t,rfl,rfl⟩
  ·rcases cX hv with ⟨j,u,rfl,rfl⟩ | ⟨y,u,rfl,rfl⟩
   ·rw [ED] at h;exact wpAny_eqBool_int h
   ·rw [EF] at h;exact SeqAt.EqAt.int_str i t y u _ _ _ _ h
  ·rcases cX hv with ⟨j,u,rfl,rfl⟩ | ⟨y,u,rfl,rfl⟩
   ·rw [EG] at h;exact SeqAt.EqAt.str_int x t j u _ _ _ _ h
   ·rw [EE] at h;exact wpAny_eqBool_str h
 «strs»:=fun k x t v h=>by
  rcases cX h with ⟨i,u,rfl,e⟩ | ⟨y,u,rfl,e⟩
  ·exact nomatch e
  ·injection e with e1 _
   subst e1
   cases v <;> rfl
theorem oV (prog:Program)(w:World)(i:Int)(t:Tok):(aU prog w).is (.inl i) (.int i t)=true:=zz i t
theorem oW (prog:Program)(w:World)(x:Str)(t:Tok):(aU prog w).is (.inr x) (.str x t)=true:=zA x t
inductive V where
 | aT | bl (b:Bool) | int (i:Int) | str (x:Str) | kU (b:Array UInt8) | zB (b:UInt64) | ref (a:Addr) | ty (n:String)
 deriving DecidableEq
def RelV:V->Value->Prop
 | .aT,u=>u=Value.none
 | .bl b,u=>u=Value.bool b
 | .int i,u=>∃t,u=Value.int i t
 | .str x,u=>∃t,u=Value.str x t
 | .kU b,u=>∃t,u=Value.bytes b t
 | .zB b,u=>∃t,u=Value.float b t
 | .ref a,u=>u=Value.ref a
 | .ty n,u=>u=Value.type n
abbrev Vals:List V->List Value->Prop:=Paired RelV
theorem Vals.length {xs:List V}{us:List Value}(r:Vals xs us):xs.length=us.length:=Paired.length r
theorem Vals.get:∀{xs:List V} {us:List Value} {i:Nat} {x:V},Vals xs us->xs[i]?=some x->∃u,us[i]?=some u/\RelV x u
 | _,_,_,_,.nil,e=>by simp at e
 | _,_,0,_,.cons r _,e=>by simp at e;subst e;exact⟨_,rfl,r⟩
 | _,_,i+1,x,.cons _ t,e=>by
  obtain⟨u,h1,h2⟩:=Vals.get (i:=i) (x:=x) t (by simpa using e)
  exact⟨u,by simpa using h1,h2⟩
theorem Vals.set {x:V}{u:Value}(r:RelV x u):∀{xs:List V} {us:List Value} (i:Nat),Vals xs us->Vals (xs.set i x) (us.set i u)
 | _,_,_,.nil=>.nil
 | _,_,0,.cons _ t=>.cons r t
 | _,_,i+1,.cons q t=>.cons q (Vals.set r i t)
theorem Vals.append:∀{xs ys:List V} {us ws:List Value},Vals xs us->Vals ys ws->Vals (xs++ys) (us++ws)
 | _,_,_,_,.nil,s=>s
 | _,_,_,_,.cons r t,s=>.cons r (Vals.append t s)
theorem Vals.take:∀{xs:List V} {us:List Value} (n:Nat),Vals xs us->Vals (xs.take n) (us.take n)
 | _,_,0,_=>.nil
 | _,_,_+1,.nil=>.nil
 | _,_,n+1,.cons r t=>.cons r (Vals.take n t)
theorem Vals.drop:∀{xs:List V} {us:List Value} (n:Nat),Vals xs us->Vals (xs.drop n) (us.drop n)
 | _,_,0,r=>r
 | _,_,_+1,.nil=>.nil
 | _,_,n+1,.cons _ t=>Vals.drop n t
def fg:Option V->Option Value->Prop
 | some v,some u=>RelV v u
 | none,none=>True
 | _,_=>False
def KV {κ : Type}:List (κ×V)->List (κ×Value)->Prop:=Paired fun (p:κ×V) (q:κ×Value)=>p.1=q.1/\RelV p.2 q.2
def kV:Key->V
 | .inl i=>.int i
 | .inr x=>.str x
inductive HO where
 | lst (xs:List V)
 | tup (xs:List V)
 | dK (kvs:List (Key×V)) | dT (kvs:List (List Key×V))
 | set (S:Int->Bool) (n:Nat)
 | ins (C dx:Addr) (fs:List (Str×V))
 | own (x:Addr)
 | xd (fs:List (Str×V))
 | met (f x:Addr)
 | EH (lo hi:Int)
 | eR (o:Obj) (u:HO)
 | mS (ps:Array Value)
 | ext (φ : Heap->Prop)
abbrev Hp:=Addr->Option HO
def upd (H:Hp)(a:Addr)(o:HO):Hp:=fun b=>if b=a then some o else H b
theorem aa {H:Hp}{a:Addr}{o:HO}:upd H a o a=some o:=by unfold upd;rw [if_pos rfl]
theorem ao {H:Hp}{a b:Addr}{o:HO}(h:b≠a):upd H a o b=H b:=by unfold upd;rw [if_neg h]
theorem jB {H:Hp}{a:Addr}{o u:HO}:upd (upd H a o) a u=upd H a u:=by
 funext b;unfold upd;split <;> rfl
theorem bJ {H:Hp}{a b:Addr}{o u:HO}(h:H a=some o)(h':H b=some u)(d:o≠u):a≠b:=by
 intro e;subst e;rw [h] at h';exact d (IA.inj h')
theorem aK {H:Hp}{a b:Addr}{o:HO}(h:H a=some o)(h':H b=none):a≠b:=by
 intro e;subst e;rw [h] at h';cases h'
section
variable (P:Program)(w:World)
def b6 (H:Hp)(h:Heap)(a:Addr):HO->Prop
 | .lst xs=>xs.length<=sizeLine/\∃(its:List Value) (n:Nat),Vals xs its/\h.get? a=some { cls:=.type "list",data:=.seq its.toArray n }
 | .tup xs=>xs.length<=sizeLine/\∃its:List Value,Vals xs its/\∃o,h.get? a=some o/\o.cls=.type "tuple" /\ ∃n,o.data=.seq its.toArray n/\o.dict=none
 | .dK kvs=>kvs.length<=sizeLine/\(a == sysModules)=false/\∃vs,KV kvs vs/\h.DictOf (aU P w) a vs
 | .dT kvs=>kvs.length<=sizeLine/\(a == sysModules)=false/\∃xs:List (List Key×Addr×Value),
   Paired (fun (p:List Key×V) (q:List Key×Addr×Value)=>p.1=q.1/\H q.2.1=some (.tup (p.1.map kV))/\RelV p.2 q.2.2) kvs xs /\
   ∃o es ep,h.get? a=some o/\o.ExactDict/\o.data=.dict es ep/\es.toList=xs.map (entryOfKey (tupleKind (aU P w)))/\(xs.map (·.1)).Nodup
 | .set S n=>h.SetOf (intKind P w) a S n
 | .ins C dx fs=>H dx=some (.own a)/\fs.length<=1000/\dx≠a/\h.get? a=some (JD C dx) /\
   ∃mA,h.Ns1 dx mA/\(∀f,fg (fs.lookup f) (mA f))/\PySem.Within mA (fs.map (·.1))
 | .own _=>∃o,h.get? a=some o
 | .xd fs=>∃mA,h.Ns1 a mA/\∀f,fg (fs.lookup f) (mA f)
 | .EH lo hi=>∃t u v,h.get? a=some { cls:=.type "range",data:=.fields #[.int lo t,.int hi u,.int 1 v] }
 | .eR o u=>h.get? a=some o/\b6 H h a u
 | .mS ps=>h.get? a=some { cls:=.none,data:=.fields ps }
 | .met f x=>h.get? a=some (KD (.ref f) (.ref x))
 | .ext φ=>φ h/\(∃o,h.get? a=some o)/\∀h1 h2:Heap,φ h1->(∀o,h1.get? a=some o->h2.get? a=some o)->φ h2
def en (H:Hp)(h:Heap):Prop:=∀a o,H a=some o->b6 P w H h a o
end
section
variable {P:Program}{w:World}{H H':Hp}{h h':Heap}{a:Addr}{o:HO}
theorem b6.lt (x:b6 P w H h a o):a<h.objs.size:=by
 cases o with
 | lst xs=>obtain⟨_,_,_,_,e⟩:=x;exact Ik e
 | tup xs=>obtain⟨_,_,_,p⟩:=x;exact (let ⟨o,e,_⟩:=p;Ik e)
 | dK kvs=>obtain⟨_,_,_,_,o,_,_,e,_⟩:=x;exact Ik e
 | dT kvs=>obtain⟨_,_,_,_,o,_,_,e,_⟩:=x;exact Ik e
 | set S n=>obtain⟨o,_,_,_,e,_⟩:=x;exact Ik e
 | ins C dx fs=>obtain⟨_,_,_,e,_⟩:=x;exact Ik e
 | own y=>obtain⟨_,e⟩:=x;exact Ik e
 | xd fs=>obtain⟨_,⟨_,_,_,e,_⟩,_⟩:=x;exact Ik e
 | EH lo hi=>obtain⟨_,_,_,e⟩:=x;exact Ik e
 | eR ob u=>obtain⟨e,_⟩:=x;exact Ik e
 | mS ps=>exact Ik (show h.get? a=some _ from x)
 | met f y=>exact Ik (show h.get? a=some _ from x)
 | ext φ=>obtain⟨_,⟨_,e⟩,_⟩:=x;exact Ik e
theorem Paired.A5 {α β : Type}{F G:α->β->Prop}:∀{l₁ : List α} {l₂ : List β},Paired F l₁ l₂->(∀a b,F a b->G a b)->Paired G l₁ l₂
 | _,_,.nil,_=>.nil
 | _,_,.cons r t,f=>.cons (f _ _ r) (Paired.A5 t f)
theorem b6.pG (x:b6 P w H h a o)(k:∀b u,(b=a\/H b=some (.own a))->h.get? b=some u->h'.get? b=some u)
  (ho:∀b,H b=some (.own a)->H' b=some (.own a)) (ht:∀b xs,H b=some (.tup xs)->H' b=some (.tup xs)):b6 P w H' h' a o:=by
 induction o with
 | lst xs=>obtain⟨z,its,n,r,e⟩:=x;exact⟨z,its,n,r,k _ _ (.inl rfl) e⟩
 | tup xs=>obtain⟨z,its,r,ob,e,c⟩:=x;exact⟨z,its,r,ob,k _ _ (.inl rfl) e,c⟩
 | dK kvs=>obtain⟨z,y,vs,r,ob,es,ep,e,c⟩:=x;exact⟨z,y,vs,r,ob,es,ep,k _ _ (.inl rfl) e,c⟩
 | dT kvs =>
  obtain⟨z,y,xs,r,ob,es,ep,e,c⟩:=x
  exact⟨z,y,xs,Paired.A5 r fun p q z=>⟨z.1,ht _ _ z.2.1,z.2.2⟩,ob,es,ep,k _ _ (.inl rfl) e,c⟩
 | set S n=>obtain⟨ob,es,ep,t,e,c⟩:=x;exact⟨ob,es,ep,t,k _ _ (.inl rfl) e,c⟩
 | ins C dx fs =>
  obtain⟨d,z,ne,e,mA,⟨od,es,ep,e2,c⟩,r⟩:=x
  exact⟨ho _ d,z,ne,k _ _ (.inl rfl) e,mA,⟨od,es,ep,k _ _ (.inr d) e2,c⟩,r⟩
 | own y=>obtain⟨ob,e⟩:=x;exact⟨ob,k _ _ (.inl rfl) e⟩
 | xd fs=>obtain⟨mA,⟨od,es,ep,e,c⟩,r⟩:=x;exact⟨mA,⟨od,es,ep,k _ _ (.inl rfl) e,c⟩,r⟩
 | EH lo hi=>obtain⟨t,u,v,e⟩:=x;exact⟨t,u,v,k _ _ (.inl rfl) e⟩
 | eR ob u ih=>obtain⟨e,q⟩:=x;exact⟨k _ _ (.inl rfl) e,ih q⟩
 | mS ps =>
  have e:h.get? a=some { cls:=.none,data:=.fields ps }:=x
  show h'.get? a=some { cls:=.none,data:=.fields ps }
  exact k a _ (.inl rfl) e
 | met f y =>
  have e:h.get? a=some (KD (.ref f) (.ref y)):=x
  show h'.get? a=some (KD (.ref f) (.ref y))
  exact k a _ (.inl rfl) e
 | ext φ=>obtain⟨p,⟨o,e⟩,st⟩:=x;exact⟨st _ _ p fun o q=>k _ _ (.inl rfl) q,⟨o,k _ _ (.inl rfl) e⟩,st⟩
theorem en.lt (x:en P w H h)(e:H a=some o):a<h.objs.size:=(x a o e).lt
theorem en.fresh (x:en P w H h)(e:h.objs.size<=a):H a=none:=by
 cases q:H a with
 | none=>rfl
 | some u=>exact absurd (IM (x.lt q) e) (IJ _)
theorem en.kept (x:en P w H h)(k:∀b u,h.get? b=some u->h'.get? b=some u):en P w H h':=fun a o e =>
 (x a o e).pG (fun b u _ q=>k b u q) (fun _ q=>q) fun _ _ q=>q
theorem en.laid (x:en P w H h)(k:∀b u,h.get? b=some u->h'.get? b=some u)(hp:h.objs.size<=a)(new:b6 P w (upd H a o) h' a o):en P w (upd H a o) h':=fun b u e=>by
 have hn:=x.fresh hp
 by_cases hb:b=a
 ·subst hb;rw [aa] at e;cases e;exact new
 ·rw [ao hb] at e
  exact (x b u e).pG (fun c v _ q=>k c v q) (fun c q=>by rw [ao (aK q hn)];exact q) fun c xs q=>by rw [ao (aK q hn)];exact q
end
def Rd (H:Hp)(a:Addr)(u:HO):Prop:=H a=some u\/∃o,H a=some (.eR o u)
theorem Rd.ok {P:Program}{w:World}{H:Hp}{h:Heap}{a:Addr}{u:HO}(r:Rd H a u)(x:en P w H h):b6 P w H h a u:=by
 rcases r with r | ⟨o,r⟩
 ·exact x a u r
 ·obtain⟨_,q⟩:=x a _ r
  exact q
def zC:Option HO->Prop
 | some (.lst _)=>True
 | some (.dK _)=>True
 | some (.dT _)=>True
 | some (.set _ _)=>True
 | some (.ins _ _ _)=>True
 | some (.ext _)=>True
 | _=>False
section
variable {P:Program}{w:World}{H:Hp}{h h':Heap}{x e:Addr}{o':HO}
theorem en.write (ok:en P w H h)(mu:zC (H x))(he:e=x\/H e=some (.own x))(k:∀b u,b≠e->h.get? b=some u->h'.get? b=some u)(heo:∃u,h'.get? e=some u)
  (new:b6 P w (upd H x o') h' x o'):en P w (upd H x o') h':=fun b u q=>by
 have nown:∀c y,H c=some (.own y)->c≠x:=fun c y r z=>by subst z;rw [r] at mu;exact mu
 have ntup:∀c xs,H c=some (.tup xs)->c≠x:=fun c xs r z=>by subst z;rw [r] at mu;exact mu
 by_cases hb:b=x
 ·subst hb;rw [aa] at q;cases q;exact new
 ·rw [ao hb] at q
  by_cases hbe:b=e
  ·have q':H b=some (.own x):=by
    rcases he with z | z
    ·exact absurd (hbe.trans z) hb
    ·rw [hbe];exact z
   rw [q] at q';cases q'
   obtain⟨v,hv⟩:=heo
   exact⟨v,by rw [hbe];exact hv⟩
  ·refine (ok b u q).pG (fun c v hc r=>k c v ?_ r) (fun c r=>by rw [ao (nown c b r)];exact r) fun c xs r=>by rw [ao (ntup c xs r)];exact r
   rcases hc with rfl | hc
   ·exact hbe
   ·rintro rfl
    rcases he with z | z
    ·exact nown c b hc z
    ·rw [hc] at z;cases z;exact hb rfl
end
structure Un (fs ex:List Addr) (H H':Hp) (h h':Heap):Prop where
 keep:∀b o,h.get? b=some o->H b=none->b∉fs->b∉ex->h'.get? b=some o
 slot:∀b o,h.get? b=some o->H b=none->b∈fs->b∉ex->∃sl,h'.get? b=some { o with slots:=sl }
 free:∀b o,h.get? b=some o->H b=none->b∉ex->H' b=none
 there:∀b o,h.get? b=some o->b∉ex->∃o',h'.get? b=some o'
 av:∀b xs,H b=some (.tup xs)->H' b=some (.tup xs)
 je:∀b o u,H b=some (.eR o u)->H' b=some (.eR o u)
 jD:∀b ps,H b=some (.mS ps)->∃more,H' b=some (.mS (ps++more))
section
variable {fs fs' ex ex':List Addr}{H H1 H2:Hp}{h h1 h2 h':Heap}{a x e:Addr}{o:HO}
theorem Un.any (u:Un fs ex H H1 h h1){b:Addr}{ob:Obj}(q:h.get? b=some ob)(n:H b=none)(hx:b∉ex):∃sl,h1.get? b=some { ob with slots:=sl }:=by
 by_cases hb:b∈fs
 ·exact u.slot b ob q n hb hx
 ·exact⟨ob.slots,u.keep b ob q n hb hx⟩
theorem Un.kept (k:∀b u,h.get? b=some u->h'.get? b=some u):Un fs ex H H h h' :=
 ⟨fun b ob q _ _ _=>k b ob q,fun b ob q _ _ _=>⟨ob.slots,k b ob q⟩,fun _ _ _ n _=>n,fun b ob q _=>⟨ob,k b ob q⟩,fun _ _ q=>q,fun _ _ _ q=>q,fun _ ps q=>⟨#[],by rw [q];simp⟩⟩
theorem Un.refl:Un fs ex H H h h:=Un.kept fun _ _ q=>q
theorem Un.laid (k:∀b u,h.get? b=some u->h'.get? b=some u)(hp:h.objs.size<=a)(hn:H a=none):Un fs ex H (upd H a o) h h' where
 keep:=fun b u q _ _ _=>k b u q
 slot:=fun b u q _ _ _=>⟨u.slots,k b u q⟩
 free:=fun b u q n _=>by rw [ao (Iq (IM (Ik q) hp))];exact n
 there:=fun b u q _=>⟨u,k b u q⟩
 av:=fun b xs q=>by rw [ao (aK q hn)];exact q
 je:=fun b u xs q=>by rw [ao (aK q hn)];exact q
 jD:=fun b ps q=>⟨#[],by rw [ao (aK q hn),q];simp⟩
theorem Un.write (mu:zC (H x))(he:e=x\/H e=some (.own x))(k:∀b u,b≠e->h.get? b=some u->h'.get? b=some u)(heo:∃u,h'.get? e=some u):Un fs ex H (upd H x o) h h':=by
  have hx:∀b,H b=none->b≠x:=fun b n z=>by subst z;rw [n] at mu;exact mu
  have hb:∀b,H b=none->b≠e:=fun b n z=>by
    subst z
    rcases he with r | r
    . exact hx b n r
    . rw [n] at r;cases r
  have hm:∀b u,H b=some u->¬zC (some u)->b≠x:=fun b u q nm z=>by subst z;rw [q] at mu;exact nm mu
  refine⟨fun b u q n _ _=>k b u (hb b n) q,fun b u q n _ _=>⟨u.slots,k b u (hb b n) q⟩,fun b u q n _=>by rw [ao (hx b n)];exact n,fun b u q _=>?_,
    fun b xs q=>by rw [ao (hm b _ q fun z=>z)];exact q,fun b u xs q=>by rw [ao (hm b _ q fun z=>z)];exact q,fun b ps q=>⟨#[],by rw [ao (hm b _ q fun z=>z),q];simp⟩⟩
  by_cases hbe:b=e
  . subst hbe;exact heo
  . exact⟨u,k b u hbe q⟩
end
def CW (h:Heap)(H:Hp):List Addr:=(IZ h.objs.size).filter fun a=>(H a).isSome
def lL (h:Heap)(H:Hp):Heap:=PySem.W.hideAll h (CW h H)
theorem zD (h:Heap)(H:Hp):(lL h H).objs.size=h.objs.size:=PySem.W.hideAll_size _ _
theorem Ba {h:Heap}{H:Hp}{b:Addr}{o:Obj}(e:h.get? b=some o)(n:H b=none):(lL h H).get? b=some o :=
 PySem.W.hideAll_get _ e fun hm=>by
  have q:(H b).isSome=true:=(Jf.mp hm).2
  rw [n] at q;simp at q
theorem Dr {h:Heap}{H:Hp}{b:Addr}{o:Obj}(e:(lL h H).get? b=some o):h.get? b=some o/\H b=none:=by
 have e':h.get? b=some o:=PySem.W.of_hideAll (CW h H) e
 refine⟨e',?_⟩
 cases q:H b with
 | none=>rfl
 | some x =>
  have hm:b∈CW h H:=Jf.mpr ⟨Jw.mpr (Ik e'),by simp [q]⟩
  have z:(lL h H).get? b=none:=PySem.W.hideAll_none (CW h H) hm
  rw [z] at e;cases e
def Ds (g h:Heap)(L:Addr):List (Addr×Obj):=(IZ h.objs.size).filterMap fun a=>if a=L\/(g.get? a).isSome=true then none else (h.get? a).map fun o=>(a,o)
def rest (g h:Heap)(L d:Addr):List (Addr×Obj):=(Ds g h L).filter fun p=>decide (p.1≠d)
structure Mod (K:Ih) (mg:Str->Option Value) (base:Heap):Prop where
 kW:K.In base
 glob:base.Ns mainGlobals mg
 blt:∃mb,base.Ns builtinsNs mb/\∀x:Str,x ≠ "__name__" -> mb x=bootBuiltins x
 nolimit:base.NoLimit
structure Cx where
 prog:Program
 w:World
 K:Ih
 mg:Str->Option Value
 base:Heap
 A:Around
 N:List Str
 eh:Shared
 lM:Hp
 env:Env
 outer:List Env
 stack:List Env
 ex:List Addr
 fn:Str->Bool
 calm:Bool
 pn:List (Addr×Obj)
 xe:Value->Shared->Prop
def mT (l:List Env):List Addr:=l.filterMap (·.frame)
abbrev Cx.fs (X:Cx):List Addr:=mT X.outer
def EI (sc:Scope)(x:Str):Prop:=sc.names.lookup x=some .local\/sc.names.lookup x=some .cell\/sc.names.lookup x=some .free
def Loc (sc:Scope)(x:Str):Prop:=sc.names.lookup x=some .local\/sc.names.lookup x=some .cell
def Look (env:Env)(h:Heap)(m:Str->Option Value)(x:Str)(u:Value):Prop :=
 (env.kindOf x=some .local/\m x=some u)\/((env.kindOf x=some .cell\/env.kindOf x=some .free)/\∃c,env.cells.lookup x=some c/\h.IsCell c (some u))
structure Cx.Ok (X:Cx):Prop where
 mod:Mod X.K X.mg X.base
 kind:X.env.scope.kind=.function
 glob:X.env.globals=mainGlobals
 blt:X.env.builtins=builtinsNs
 above:X.eh.heap.objs.size<=X.env.locals
 inj:∀x y c,X.env.cells.lookup x=some c->X.env.cells.lookup y=some c->x=y
 has:∀x,(X.env.kindOf x=some .cell\/X.env.kindOf x=some .free)->∃c,X.env.cells.lookup x=some c
 zE:∀x c,X.fn x=true->X.env.cells.lookup x=some c->X.eh.heap.objs.size<=c
 hd:X.calm=true->X.A.handled=none
 frames:X.A.frames=some X.stack
 CY:X.stack=X.outer\/(X.stack=X.env::X.outer/\X.env.frame=some X.env.locals)
 GP:∀b∈X.ex,b≠X.env.locals/\∀x c,X.env.cells.lookup x=some c->c≠b
 bs:∀b o,X.base.get? b=some o->X.eh.heap.get? b=some o/\X.lM b=none
 qt:X.base.objs.size<=X.eh.heap.objs.size
 ve:∀b o,X.base.get? b=some o->b∉X.ex
 yx:∀b∈X.ex,b∉X.fs
 jf:X.eh.heap.FunFrames X.base X.outer
 vf:∀b∈X.fs,X.lM b=none
structure Inv (X:Cx) (pins:List (Addr×Obj)) (Ic : List (Option V)) (H:Hp) (s:Shared):Prop where
 ok:X.Ok
 os:s.os=X.eh.os
 bare:AllBare s.gens
 base:Un X.fs X.ex X.lM H X.eh.heap s.heap
 loc:∃m,s.heap.Ns X.env.locals m/\∀(i:Nat) (x:Str) (v:V),X.N[i]?=some x->Ic[i]?=some (some v)->EI X.env.scope x->∃u,RelV v u/\Look X.env s.heap m x u
 cell:∀x c,X.env.cells.lookup x=some c->∃v,s.heap.IsCell c v
 free:H X.env.locals=none
 fD:∀x c,X.env.cells.lookup x=some c->H c=none
 pin:∀p∈X.pn++pins,s.heap.get? p.1=some p.2/\H p.1=none/\p.1≠X.env.locals/\p.1∉X.fs/\∀v,p.2.data≠.cell v
 aW:en X.prog X.w H s.heap
 len:Ic.length=X.N.length
section
variable {X:Cx}{pins:List (Addr×Obj)}{Ic : List (Option V)}{H H':Hp}{s:Shared}{h':Heap}
theorem Cx.Ok.G7 (ok:X.Ok){b:Addr}{o:Obj}(e:X.base.get? b=some o):b∉X.fs:=fun hb=>by
 have:=(ok.jf.mem hb).1
 rw [e] at this;cases this
theorem Inv.bs (I:Inv X pins Ic H s):∀b o,X.base.get? b=some o->s.heap.get? b=some o/\H b=none:=fun b o e =>
 ⟨I.base.keep b o (I.ok.bs b o e).1 (I.ok.bs b o e).2 (I.ok.G7 e) (I.ok.ve b o e),I.base.free b o (I.ok.bs b o e).1 (I.ok.bs b o e).2 (I.ok.ve b o e)⟩
theorem Inv.bk (I:Inv X pins Ic H s):∀b o,X.base.get? b=some o->s.heap.get? b=some o:=fun b o e=>(I.bs b o e).1
theorem Inv.mod (I:Inv X pins Ic H s):Mod X.K X.mg X.base:=I.ok.mod
theorem Inv.i0 (I:Inv X pins Ic H s):X.K.In s.heap:=I.ok.mod.kW.keeps I.bk
theorem Inv.lt (I:Inv X pins Ic H s):X.env.locals<s.heap.objs.size:=let ⟨_,hn,_⟩:=I.loc;hn.lt
theorem Inv.sz (I:Inv X pins Ic H s):X.eh.heap.objs.size<=s.heap.objs.size:=Ir I.ok.above (IS I.lt)
theorem Inv.G8 (I:Inv X pins Ic H s){a:Addr}(h:s.heap.objs.size<=a):a∉X.fs:=fun hb=>by
 obtain⟨_,o,ho,_⟩:=I.ok.jf.mem hb
 exact absurd (IM (Ik ho) (Ir I.sz h)) (IJ _)
theorem Inv.vg (I:Inv X pins Ic H s):∀x c,X.env.cells.lookup x=some c->c≠X.env.locals:=fun x c e z=>by
 obtain⟨v,o,ho,hd⟩:=I.cell x c e
 obtain⟨m,⟨o',es,ep,ho',hd',_⟩,_⟩:=I.loc
 rw [z,ho'] at ho;cases ho;rw [hd'] at hd;cases hd
theorem Inv.jf (I:Inv X pins Ic H s):s.heap.FunFrames X.base X.outer:=by
 have all:∀(l:List Env),(∀b∈mT l,b∈X.fs)->X.eh.heap.FunFrames X.base l->s.heap.FunFrames X.base l:=by
  intro l
  induction l with
  | nil=>intro _ _;trivial
  | cons env r ih =>
   intro hs hl
   obtain⟨hk,⟨L,o,hf,hn,ho,hd⟩,hr⟩:=hl
   have hL:L∈X.fs:=hs L (by unfold mT;rw [JO,hf];exact Iy)
   obtain⟨sl,e⟩:=I.base.slot L o ho (I.ok.vf L hL) hL fun z=>I.ok.yx L z hL
   exact⟨hk,⟨L,_,hf,hn,e,hd⟩,ih (fun b hb=>hs b (by unfold mT;rw [JO,hf];exact Iz _ hb)) hr⟩
 exact all X.outer (fun _ hb=>hb) I.ok.jf
theorem Inv.stack (I:Inv X pins Ic H s):s.heap.FunFrames X.base X.stack:=by
 rcases I.ok.CY with e | ⟨e,hf⟩
 ·rw [e];exact I.jf
 ·rw [e]
  obtain⟨m,hn,_⟩:=I.loc
  refine .cons (by rw [I.ok.kind];decide) hf hn ?_ I.jf
  exact Heap.get?_none_of_le (Ir I.ok.qt I.ok.above)
theorem Inv.qu (I:Inv X pins Ic H s):∀b∈mT X.stack,b∈X.env.locals::X.fs:=fun b hb=>by
 rcases I.ok.CY with e | ⟨e,hf⟩
 ·rw [e] at hb;exact Iz _ hb
 ·rw [e] at hb
  unfold mT at hb
  rw [JO,hf] at hb
  exact hb
theorem Inv.xo (I:Inv X pins Ic H s):∀b∈mT X.stack,H b=none:=fun b hb=>by
 rcases Ii.mp (I.qu b hb) with e | hb
 ·rw [e];exact I.free
 ·obtain⟨_,o,ho,_⟩:=I.ok.jf.mem hb
  exact I.base.free b o ho (I.ok.vf b hb) fun z=>I.ok.yx b z hb
theorem Inv.step {g':Array GenState}{t':Nat}{d':Drawn}{ch:List Addr}(I:Inv X pins Ic H s)
  (hch:∀b∈ch,(b∈X.ex\/X.eh.heap.objs.size<=b)/\b≠X.env.locals/\(∀x c,X.env.cells.lookup x=some c->c≠b)/\∀p∈X.pn++pins,p.1≠b)
  (keep:∀b o,b≠X.env.locals->b∉X.fs->b∉ch->s.heap.get? b=some o->H b=none->h'.get? b=some o)
  (slot:∀b o,b≠X.env.locals->b∈X.fs->b∉ch->s.heap.get? b=some o->H b=none->∃sl,h'.get? b=some { o with slots:=sl }) (free:∀b o,b∉ch->s.heap.get? b=some o->H b=none->H' b=none)
  (there:∀b o,b∉ch->s.heap.get? b=some o->∃o',h'.get? b=some o')
  (av:∀b xs,H b=some (.tup xs)->H' b=some (.tup xs)) (je:∀b o u,H b=some (.eR o u)->H' b=some (.eR o u)) (jD:∀b ps,H b=some (.mS ps)->∃more,H' b=some (.mS (ps++more)))
  (ns:∀m,s.heap.Ns X.env.locals m->h'.Ns X.env.locals m) (aW:en X.prog X.w H' h') (hg:AllBare g') :
  Inv X pins Ic H' { s with heap:=h',gens:=g',drawn:=d',toks:=t' }:=by
 have neL:∀b o,X.eh.heap.get? b=some o->b≠X.env.locals:=fun b o e=>Iq (IM (Ik e) I.ok.above)
 have neC:∀b o,X.eh.heap.get? b=some o->b∉X.ex->b∉ch:=fun b o e hx hb=>by
  rcases (hch b hb).1 with z | z
  ·exact hx z
  ·exact absurd (IM (Ik e) z) (IJ _)
 have cellK:∀x c,X.env.cells.lookup x=some c->∀v,s.heap.IsCell c v->h'.IsCell c v:=fun x c e v ⟨o,ho,hd⟩=>by
  have nch:c∉ch:=fun z=>(hch c z).2.2.1 x c e rfl
  by_cases hc:c∈X.fs
  ·obtain⟨sl,q⟩:=slot c o (I.vg x c e) hc nch ho (I.fD x c e)
   exact⟨_,q,hd⟩
  ·exact⟨o,keep c o (I.vg x c e) hc nch ho (I.fD x c e),hd⟩
 refine⟨I.ok,I.os,hg,⟨fun b o e n hb hx=>?_,fun b o e n hb hx=>?_,fun b o e n hx=>?_,fun b o e hx=>?_,fun b xs e=>av b xs (I.base.av b xs e),fun b o xs e=>je b o xs (I.base.je b o xs e),fun b ps e=>?_⟩,?_,fun x c e=>?_,?_,fun x c e=>?_,fun p hp=>?_,aW,I.len⟩
 ·exact keep b o (neL b o e) hb (neC b o e hx) (I.base.keep b o e n hb hx) (I.base.free b o e n hx)
 ·obtain⟨sl,e1⟩:=I.base.slot b o e n hb hx
  obtain⟨sl',e2⟩:=slot b _ (neL b o e) hb (neC b o e hx) e1 (I.base.free b o e n hx)
  exact⟨sl',e2⟩
 ·obtain⟨o',e1⟩:=I.base.there b o e hx
  exact free b o' (neC b o e hx) e1 (I.base.free b o e n hx)
 ·obtain⟨o',e1⟩:=I.base.there b o e hx
  exact there b o' (neC b o e hx) e1
 ·obtain⟨m1,e1⟩:=I.base.jD b ps e
  obtain⟨m2,e2⟩:=jD b _ e1
  exact⟨m1++m2,by rw [e2,Array.append_assoc]⟩
 ·obtain⟨m,hn,hl⟩:=I.loc
  refine⟨m,ns m hn,fun i x v e1 e2 e3=>?_⟩
  obtain⟨u,r,l⟩:=hl i x v e1 e2 e3
  refine⟨u,r,?_⟩
  rcases l with l | ⟨k,c,e,z⟩
  ·exact .inl l
  ·exact .inr ⟨k,c,e,cellK x c e _ z⟩
 ·obtain⟨v,z⟩:=I.cell x c e
  exact⟨v,cellK x c e v z⟩
 ·obtain⟨m,⟨o,_,_,ho,_⟩,_⟩:=I.loc
  exact free _ o (fun z=>(hch _ z).2.1 rfl) ho I.free
 ·obtain⟨v,o,ho,hd⟩:=I.cell x c e
  exact free c o (fun z=>(hch c z).2.2.1 x c e rfl) ho (I.fD x c e)
 ·obtain⟨e,n,ne,nf,d⟩:=I.pin p hp
  have nch:p.1∉ch:=fun z=>(hch p.1 z).2.2.2 p hp rfl
  exact⟨keep p.1 p.2 ne nf nch e n,free p.1 p.2 nch e n,ne,nf,d⟩
theorem Inv.un {t':Nat}(I:Inv X pins Ic H s)(u:Un X.fs [] H H' s.heap h')(aW:en X.prog X.w H' h'):Inv X pins Ic H' { s with heap:=h',toks:=t' }:=by
  obtain⟨m,⟨o,es,ep,ho,r⟩,_⟩:=id I.loc
  obtain⟨sl,hL⟩:=u.any ho I.free (by simp)
  exact I.step (g':=s.gens) (d':=s.drawn) (ch:=[]) (fun _ z=>nomatch z) (fun b o _ hb _ e n=>u.keep b o e n hb (by simp)) (fun b o _ hb _ e n=>u.slot b o e n hb (by simp)) (fun b o _ e n=>u.free b o e n (by simp)) (fun b o _ e=>u.there b o e (by simp)) u.av u.je u.jD (fun m' hm=>by
    obtain⟨o',es',ep',ho',r'⟩:=hm
    rw [ho] at ho';cases ho'
    exact⟨_,es',ep',hL,r'⟩) aW I.bare
theorem Inv.call {g':Array GenState}{t':Nat}{d':Drawn}{ch:List Addr}(I:Inv X pins Ic H s)(u:Un (mT X.stack) ch H H' s.heap h')(aW:en X.prog X.w H' h')(hg:AllBare g')
  (hch:∀b∈ch,(b∈X.ex\/X.eh.heap.objs.size<=b)/\b≠X.env.locals/\(∀x c,X.env.cells.lookup x=some c->c≠b)/\∀p∈X.pn++pins,p.1≠b) :
  Inv X pins Ic H' { s with heap:=h',gens:=g',drawn:=d',toks:=t' }:=by
 obtain⟨m,⟨o,es,ep,ho,r⟩,_⟩:=id I.loc
 obtain⟨sl,hL⟩:=u.any ho I.free fun z=>(hch _ z).2.1 rfl
 exact I.step (ch:=ch) hch (fun b o hL hb hc e n=>u.keep b o e n (fun z=>(Ii.mp (I.qu b z)).elim hL hb) hc) (fun b o _ _ hc e n=>u.any e n hc) (fun b o hc e n=>u.free b o e n hc) (fun b o hc e=>u.there b o e hc) u.av u.je u.jD (fun m' hm=>by
  obtain⟨o',es',ep',ho',r'⟩:=hm
  rw [ho] at ho';cases ho'
  exact⟨_,es',ep',hL,r'⟩) aW hg
theorem Inv.turned {t':Nat}{it:Addr}(I:Inv X pins Ic H s)(k:∀b o,b≠it->s.heap.get? b=some o->h'.get? b=some o)(hn:H it=none)(hL:it≠X.env.locals)
  (h1:it∈X.ex\/X.eh.heap.objs.size<=it) (h2:∀x c,X.env.cells.lookup x=some c->c≠it) (h3:∀p∈X.pn++pins,p.1≠it):Inv X pins Ic H { s with heap:=h',toks:=t' }:=by
 have nit:∀b u,H b=some u->b≠it:=fun b u e z=>by rw [z,hn] at e;cases e
 refine I.step (g':=s.gens) (d':=s.drawn) (ch:=[it]) (fun b hb=>?_) (fun b o _ _ hc e _=>k b o (fun z=>hc (by simp [z])) e) (fun b o _ _ hc e _=>⟨o.slots,k b o (fun z=>hc (by simp [z])) e⟩) (fun _ _ _ _ n=>n)
  (fun b o hc e=>⟨o,k b o (fun z=>hc (by simp [z])) e⟩) (fun _ _ e=>e) (fun _ _ _ e=>e) (fun b ps e=>⟨#[],by rw [e];simp⟩) (fun m hm=>?_) (fun b u e=>?_) I.bare
 ·have e:b=it:=by simpa using hb
  subst e
  exact⟨h1,hL,h2,h3⟩
 ·obtain⟨o,es,ep,ho,r⟩:=hm
  exact⟨o,es,ep,k _ o (Ne.symm hL) ho,r⟩
 ·refine (I.aW b u e).pG (fun c v hc q=>k c v ?_ q) (fun _ q=>q) fun _ _ q=>q
  rcases hc with z | z
  ·rw [z];exact nit b u e
  ·exact nit c _ z
theorem Inv.tok (I:Inv X pins Ic H s)(t:Nat):Inv X pins Ic H { s with toks:=t }:=I.un (h':=s.heap) (t':=t) Un.refl I.aW
theorem Inv.kept {t':Nat}(I:Inv X pins Ic H s)(k:∀b u,s.heap.get? b=some u->h'.get? b=some u):Inv X pins Ic H { s with heap:=h',toks:=t' }:=I.un (Un.kept k) (I.aW.kept k)
theorem Inv.laid {a:Addr}{o:HO}{t':Nat}(I:Inv X pins Ic H s)(k:∀b u,s.heap.get? b=some u->h'.get? b=some u)(hp:s.heap.objs.size<=a)(new:b6 X.prog X.w (upd H a o) h' a o) :
  Inv X pins Ic (upd H a o) { s with heap:=h',toks:=t' }:=I.un (Un.laid k hp (I.aW.fresh hp)) (I.aW.laid k hp new)
theorem Inv.write {x e:Addr}{o:HO}{t':Nat}(I:Inv X pins Ic H s)(mu:zC (H x))(he:e=x\/H e=some (.own x))(k:∀b u,b≠e->s.heap.get? b=some u->h'.get? b=some u)(heo:∃u,h'.get? e=some u)
  (new:b6 X.prog X.w (upd H x o) h' x o):Inv X pins Ic (upd H x o) { s with heap:=h',toks:=t' }:=I.un (Un.write mu he k heo) (I.aW.write mu he k heo new)
theorem Inv.xp {pins':List (Addr×Obj)}(I:Inv X pins Ic H s)(h:∀p∈pins',s.heap.get? p.1=some p.2/\H p.1=none/\p.1≠X.env.locals/\p.1∉X.fs/\∀v,p.2.data≠.cell v):Inv X pins' Ic H s :=
 ⟨I.ok,I.os,I.bare,I.base,I.loc,I.cell,I.free,I.fD,fun p hp=>(IC.mp hp).elim (fun z=>I.pin p (Jh _ z)) (h p),I.aW,I.len⟩
theorem vh {N:List Str}(hN:N.Nodup){i j:Nat}{x:Str}(a:N[i]?=some x)(b:N[j]?=some x):i=j:=by
 obtain⟨h1,e1⟩:=IE.mp a
 obtain⟨h2,e2⟩:=IE.mp b
 exact (List.getElem_inj hN).mp (e1.trans e2.symm)
theorem tI {M:Model}{A:Around}{E:Value->Shared->Prop}{i:Nat}{x:Str}{v:V}{u:Value}{Q:Unit->Shared->Prop}(I:Inv X pins Ic H s)(hN:X.N.Nodup)(hi:X.N[i]?=some x)(hx:Loc X.env.scope x)(r:RelV v u)
  (h:∀s',Inv X pins (Ic.set i (some v)) H s'->(∃a,IT a s.heap s'.heap/\(a=X.env.locals\/X.env.cells.lookup x=some a))->Q () s') (hf:X.fn x=true\/X.env.scope.names.lookup x=some .local:=by first | exact .inl rfl | exact .inr rfl | assumption):wpAny M A (storeName X.env x u) Q E s:=by
 obtain⟨m,hn,hl⟩:=id I.loc
 have hcls:(X.env.scope.kind == .class||(X.env.scope.kind == .module&&X.env.locals != X.env.globals))=false:=by rw [I.ok.kind];rfl
 have hiσ : i<Ic.length:=by rw [I.len];exact (IE.mp hi).1
 have vg:=I.vg
 have tracked:∀{a:Addr} {h':Heap},(∃o,s.heap.get? a=some o/\H a=none)->IT a s.heap h'->en X.prog X.w H h':=fun {a h'} ha hs b ob e=>by
  obtain⟨_,_,hfree⟩:=ha
  refine (I.aW b ob e).pG (fun c w' hc q=>(hs.2 c ?_).trans q) (fun _ q=>q) fun _ _ q=>q
  rintro rfl
  rcases hc with rfl | hc
  ·rw [hfree] at e;cases e
  ·rw [hfree] at hc;cases hc
 rcases hx with hk | hk
 ·refine wpAny_storeName_local hk hn (fun h' hn' hs=>?_) hcls
  obtain⟨oL,_,_,hoL,_⟩:=id hn
  refine h _ ⟨I.ok,I.os,I.bare,⟨fun b o e n hb hx=>?_,fun b o e n hb hx=>?_,I.base.free,fun b o e hx=>?_,I.base.av,I.base.je,I.base.jD⟩,⟨_,hn',fun j y v' e1 e2 e3=>?_⟩,fun y c e=>?_,I.free,I.fD,fun p hp=>?_,tracked ⟨oL,hoL,I.free⟩ hs,by simpa using I.len⟩ ⟨_,hs,.inl rfl⟩
  ·exact (hs.2 b (Iq (IM (Ik e) I.ok.above))).trans (I.base.keep b o e n hb hx)
  ·obtain⟨sl,e1⟩:=I.base.slot b o e n hb hx
   exact⟨sl,(hs.2 b (Iq (IM (Ik e) I.ok.above))).trans e1⟩
  ·obtain⟨o',e1⟩:=I.base.there b o e hx
   exact⟨o',(hs.2 b (Iq (IM (Ik e) I.ok.above))).trans e1⟩
  ·by_cases hj:j=i
   ·subst hj
    rw [hi] at e1;cases e1
    rw [KG hiσ] at e2
    cases e2
    exact⟨u,r,.inl ⟨hk,by simp⟩⟩
   ·rw [List.getElem?_set_ne (Ne.symm hj)] at e2
    obtain⟨u',r',q⟩:=hl j y v' e1 e2 e3
    refine⟨u',r',?_⟩
    rcases q with ⟨k,e⟩ | ⟨k,c,e,z⟩
    ·refine .inl ⟨k,?_⟩
     have:y≠x:=fun e=>hj (vh hN e1 (e ▸ hi))
     simp [this,e]
    ·exact .inr ⟨k,c,e,z.sameBut hs (vg y c e)⟩
  ·obtain⟨w',z⟩:=I.cell y c e
   exact⟨w',z.sameBut hs (vg y c e)⟩
  ·obtain⟨e,n,ne,nf,d⟩:=I.pin p hp
   exact⟨(hs.2 p.1 ne).trans e,n,ne,nf,d⟩
 ·have hfn:X.fn x=true:=by
   rcases hf with z | z
   ·exact z
   ·rw [z] at hk;cases hk
  obtain⟨c,hc⟩:=I.ok.has x (.inl hk)
  obtain⟨w',z⟩:=I.cell x c hc
  refine wpAny_storeName_cell I.ok.kind hk hc z (fun h' hc' hs=>?_)
  obtain⟨oc,hoc,hocd⟩:=id z
  refine h { s with heap:=h' } ⟨I.ok,I.os,I.bare,⟨fun b o e n hb hx=>?_,fun b o e n hb hx=>?_,I.base.free,fun b o e hx=>?_,I.base.av,I.base.je,I.base.jD⟩,⟨m,hn.sameBut hs (Ne.symm (vg x c hc)),fun j y v' e1 e2 e3=>?_⟩,fun y c' e=>?_,I.free,I.fD,fun p hp=>?_,tracked ⟨oc,hoc,I.fD x c hc⟩ hs,by simpa using I.len⟩ ⟨c,hs,.inr hc⟩
  ·exact (hs.2 b (Iq (IM (Ik e) (I.ok.zE x c hfn hc)))).trans (I.base.keep b o e n hb hx)
  ·obtain⟨sl,e1⟩:=I.base.slot b o e n hb hx
   exact⟨sl,(hs.2 b (Iq (IM (Ik e) (I.ok.zE x c hfn hc)))).trans e1⟩
  ·obtain⟨o',e1⟩:=I.base.there b o e hx
   exact⟨o',(hs.2 b (Iq (IM (Ik e) (I.ok.zE x c hfn hc)))).trans e1⟩
  ·by_cases hj:j=i
   ·subst hj
    rw [hi] at e1;cases e1
    rw [KG hiσ] at e2
    cases e2
    exact⟨u,r,.inr ⟨.inl hk,c,hc,hc'⟩⟩
   ·rw [List.getElem?_set_ne (Ne.symm hj)] at e2
    obtain⟨u',r',q⟩:=hl j y v' e1 e2 e3
    refine⟨u',r',?_⟩
    rcases q with q | ⟨k,c',e,z'⟩
    ·exact .inl q
    ·refine .inr ⟨k,c',e,z'.sameBut hs ?_⟩
     rintro rfl
     exact hj (vh hN e1 (I.ok.inj _ _ _ e hc ▸ hi))
  ·by_cases hcc:c' = c
   ·subst hcc;exact⟨_,hc'⟩
   ·obtain⟨w2,z2⟩:=I.cell y c' e
    exact⟨w2,z2.sameBut hs hcc⟩
  ·obtain⟨e,n,ne,nf,d⟩:=I.pin p hp
   refine⟨(hs.2 p.1 ?_).trans e,n,ne,nf,d⟩
   intro q
   rw [q,hoc] at e
   have q':oc=p.2:=IA.inj e
   exact d w' (by rw [<-q'];exact hocd)
theorem lN {M:Model}{A:Around}{E:Value->Shared->Prop}{i:Nat}{x:Str}{v:V}{u:Value}{Q:Unit->Shared->Prop}(I:Inv X pins Ic H s)(hN:X.N.Nodup)(hi:X.N[i]?=some x)(hx:Loc X.env.scope x)(r:RelV v u)
  (h:∀s',Inv X pins (Ic.set i (some v)) H s'->Q () s') (hf:X.fn x=true\/X.env.scope.names.lookup x=some .local:=by first | exact .inl rfl | exact .inr rfl | assumption):wpAny M A (storeName X.env x u) Q E s :=
 tI I hN hi hx r (fun s' I' _=>h s' I') hf
theorem Inv.F5 {s':Shared}{ch:List Addr}(I:Inv X pins Ic H s)(ho:s'.os=s.os)(u:Un (mT X.stack) ch H H' s.heap s'.heap)(aW:en X.prog X.w H' s'.heap)(hg:AllBare s'.gens)
  (hch:∀b∈ch,(b∈X.ex\/X.eh.heap.objs.size<=b)/\b≠X.env.locals/\(∀x c,X.env.cells.lookup x=some c->c≠b)/\∀p∈X.pn++pins,p.1≠b):Inv X pins Ic H' s':=by
 obtain⟨h',g',d',t',o'⟩:=s'
 have e:o' = s.os:=ho
 subst e
 exact I.call (g':=g') (t':=t') (d':=d') u aW hg hch
end
abbrev XK:=Value->Option Addr->Hp->Prop
abbrev St:=List (Option V)
abbrev VK:=V->Hp->Prop
abbrev TE:=St->Hp->VK->Prop
abbrev TT:=St->Hp->(Bool->Hp->Prop)->Prop
abbrev TA:=St->Hp->(List V->Hp->Prop)->Prop
structure Ends where
 nx:St->Hp->Prop
 rt:VK
 bk:St->Hp->Prop:=fun _ _=>False
 ct:St->Hp->Prop:=fun _ _=>False
abbrev TS:=Ends->St->Hp->Prop
def EP (X:Cx)(pins:List (Addr×Obj))(Ic : St)(Q:VK)(u:Value)(s':Shared):Prop:=∃v H',Inv X pins Ic H' s'/\RelV v u/\Q v H'
def TP (X:Cx)(pins:List (Addr×Obj))(Ic : St)(Q:Bool->Hp->Prop)(b:Bool)(s':Shared):Prop:=∃H',Inv X pins Ic H' s'/\Q b H'
def AP (X:Cx)(pins:List (Addr×Obj))(Ic : St)(Q:List V->Hp->Prop)(us:List Value)(s':Shared):Prop:=∃vs H',Inv X pins Ic H' s'/\Vals vs us/\Q vs H'
def SP (X:Cx)(pins:List (Addr×Obj))(D:Ends)(f:Flow)(s':Shared):Prop :=
 match f with
 | .next=>∃σ' H',Inv X pins σ' H' s'/\D.nx σ' H'
 | .brk=>∃σ' H',Inv X pins σ' H' s'/\D.bk σ' H'
 | .cont=>∃σ' H',Inv X pins σ' H' s'/\D.ct σ' H'
 | .ret u=>∃v σ' H',Inv X pins σ' H' s'/\RelV v u/\D.rt v H'
def PE (X:Cx)(e:Expr)(t:TE):Prop :=
 ∀(pins:List (Addr×Obj)) (s:Shared) (Ic : St) (H:Hp) (Q:VK),Inv X pins Ic H s->t Ic H Q->wpAny (model X.prog X.w) X.A (eval e X.env) (EP X pins Ic Q) X.xe s
def PT (X:Cx)(e:Expr)(t:TT):Prop :=
 ∀(pins:List (Addr×Obj)) (s:Shared) (Ic : St) (H:Hp) (Q:Bool->Hp->Prop),Inv X pins Ic H s->t Ic H Q->wpAny (model X.prog X.w) X.A (isTrue e X.env (eval e X.env)) (TP X pins Ic Q) X.xe s
def PW (X:Cx)(e:Expr)(t:TT):Prop :=
 ∀(whole:Sem Value) (pins:List (Addr×Obj)) (s:Shared) (Ic : St) (H:Hp) (Q:Bool->Hp->Prop),Inv X pins Ic H s->t Ic H Q->wpAny (model X.prog X.w) X.A (isTrue e X.env whole) (TP X pins Ic Q) X.xe s
theorem PW.pt {X:Cx}{e:Expr}{t:TT}(h:PW X e t):PT X e t:=h _
def PA (X:Cx)(es:List Expr)(t:TA):Prop :=
 ∀(pos:Pos) (pins:List (Addr×Obj)) (s:Shared) (Ic : St) (H:Hp) (Q:List V->Hp->Prop),Inv X pins Ic H s->t Ic H Q->wpAny (model X.prog X.w) X.A (spliced (backTo pos (starEach es X.env))) (AP X pins Ic Q) X.xe s
def PS (X:Cx)(st:Stmt)(t:TS):Prop :=
 ∀(pins:List (Addr×Obj)) (s:Shared) (Ic : St) (H:Hp) (D:Ends),Inv X pins Ic H s->t D Ic H->wpAny (model X.prog X.w) X.A (exec st X.env) (SP X pins D) X.xe s
def jE (X:Cx)(st:List Stmt)(t:TS):Prop :=
 ∀(pins:List (Addr×Obj)) (s:Shared) (Ic : St) (H:Hp) (D:Ends),Inv X pins Ic H s->t D Ic H->wpAny (model X.prog X.w) X.A (execs st X.env) (SP X pins D) X.xe s
theorem br {α : Type}{t:Sem α}{Q Q':α->Shared->Prop}{M:Model}{A:Around}{E:Value->Shared->Prop}{s:Shared}(h:wpAny M A t Q E s)(hQ:∀a s,Q a s->Q' a s):wpAny M A t Q' E s:=KW h hQ fun _ _ x=>x
section
variable {X:Cx}
inductive sd (i:Nat) (Ic : St) (H:Hp) (Q:VK):Prop
 | mk (v:_) (_:Ic[i]?=some (some v)) (_:Q v H)
def tC (v:V):TE:=fun _ H Q=>Q v H
theorem EJ {i:Nat} {x:Str} {pos:Pos} (hN:X.N[i]?=some x) (hv:EI X.env.scope x) (hd:(x == ("__debug__" : Str))=false:=by decide) (hcd:(x == ("__classdict__" : Str))=false:=by decide):PE X (.Name x pos) (sd i):=by
 intro pins s Ic H Q I h
 obtain⟨v,e,h⟩:=h
 obtain⟨m,hn,hl⟩:=I.loc
 obtain⟨u,r,l⟩:=hl i x v hN e hv
 have fin:EP X pins Ic Q u s:=⟨v,H,I,r,h⟩
 rcases l with ⟨hk,hm⟩ | ⟨hk,c,hc,hcell⟩
 ·exact wpAny_Name (wpAny_loadName_local I.ok.kind hk hn hm fin) hd
 ·rcases hk with hk | hk
  ·exact wpAny_Name (wpAny_loadName_cell I.ok.kind hk hc hcell fin) hd
  ·exact wpAny_Name (wpAny_loadName_free I.ok.kind hk hc hcell fin hcd) hd
theorem ah {i j pos}:PE X (.Constant (.int i) j pos) (tC (.int i)):=fun _ _ _ H _ I h=>wpAny_Constant_int ⟨.int i,H,I.tok _,⟨_,rfl⟩,h⟩
theorem gP {b j pos}:PE X (.Constant (.bool b) j pos) (tC (.bl b)):=fun _ _ _ H _ I h=>Constant_bool ⟨.bl b,H,I,rfl,h⟩
theorem bW {j pos}:PE X (.Constant .none j pos) (tC .aT):=fun _ _ _ H _ I h=>Constant_none ⟨.aT,H,I,rfl,h⟩
theorem bN {x j pos}:PE X (.Constant (.str x) j pos) (tC (.str x)):=fun _ _ _ H _ I h=>Calls.Constant_str ⟨.str x,H,I.tok _,⟨_,rfl⟩,h⟩
def Gl (X:Cx)(x:Str):Prop:=X.env.kindOf x=some .globalImplicit
theorem se {E:Value->Shared->Prop}{pins:List (Addr×Obj)}{s:Shared}{Ic : St}{H:Hp}{x:Str}{u:Value}{pos:Pos}{Q:Value->Shared->Prop}(I:Inv X pins Ic H s)(hg:Gl X x)(hm:X.mg x=some u)(h:Q u s)
  (hd:(x == ("__debug__" : Str))=false:=by decide):wpAny (model X.prog X.w) X.A (eval (.Name x pos) X.env) Q E s :=
 Calls.Name_function_global I.ok.kind hg (Calls.loadGlobal_global (by rw [I.ok.glob];exact I.mod.glob.keeps I.bk) hm h) hd
theorem jF {E:Value->Shared->Prop}{pins:List (Addr×Obj)}{s:Shared}{Ic : St}{H:Hp}{x:Str}{u:Value}{pos:Pos}{Q:Value->Shared->Prop}(I:Inv X pins Ic H s)(hg:Gl X x)(hm:X.mg x=none)(hv:bootBuiltins x=some u)(h:Q u s)
  (hn:x ≠ "__name__" := by decide) (hd:(x == ("__debug__" : Str))=false:=by decide):wpAny (model X.prog X.w) X.A (eval (.Name x pos) X.env) Q E s:=by
 obtain⟨mb,h1,h2⟩:=I.mod.blt
 exact Calls.Name_function_global I.ok.kind hg (Calls.loadGlobal_builtin (by rw [I.ok.glob];exact I.mod.glob.keeps I.bk) hm (by rw [I.ok.blt];exact h1.keeps I.bk) ((h2 x hn).trans hv) h) hd
theorem gm {x:Str} {v:V} {u:Value} {pos:Pos} (hg:Gl X x) (hm:X.mg x=some u) (r:RelV v u) (hd:(x == ("__debug__" : Str))=false:=by decide):PE X (.Name x pos) (tC v) :=
 fun _ _ _ H _ I h=>se I hg hm ⟨v,H,I,r,h⟩ hd
variable {a b:Expr}{ta tb:TE}{pos:Pos}
def PC (X:Cx)(op:CmpOp)(a b:Expr)(t:TE):Prop :=
 ∀(pins:List (Addr×Obj)) (s:Shared) (Ic : St) (H:Hp) (Q:VK),Inv X pins Ic H s->t Ic H Q ->
  wpAny (model X.prog X.w) X.A (eval a X.env) (fun v s₁=>wpAny (model X.prog X.w) X.A (eval b X.env) (fun u s₂=>wpAny (model X.prog X.w) X.A (compareOp op v u) (EP X pins Ic Q) X.xe s₂) X.xe s₁) X.xe s
theorem vi (b:Expr){op:CmpOp}(h:op≠.In)(h2:op≠.NotIn):behindInMarks op b=false:=by
 have e1:(op == CmpOp.In)=false:=by cases op <;> first | rfl | exact absurd rfl h
 have e2:(op == CmpOp.NotIn)=false:=by cases op <;> first | rfl | exact absurd rfl h2
 cases b <;> simp [behindInMarks,e1,e2]
def G9 (ta:TE):TE:=fun Ic H Q=>ta Ic H fun x H1=>Q (.bl (decide (x=.aT))) H1
def F9 (ta:TE):TE:=fun Ic H Q=>ta Ic H fun x H1=>Q (.bl (!decide (x=.aT))) H1
theorem RelV.vj {x:V}{v:Value}(r:RelV x v):(v == Value.none)=decide (x=.aT):=by
 cases x with
 | aT=>cases r;rfl
 | bl _=>cases r;rfl
 | int _=>obtain⟨t,rfl⟩:=r;rfl
 | str _=>obtain⟨t,rfl⟩:=r;rfl
 | kU _=>obtain⟨t,rfl⟩:=r;rfl
 | zB _=>obtain⟨t,rfl⟩:=r;rfl
 | ref _=>cases r;rfl
 | ty _=>cases r;rfl
theorem fh {j pos'}(ha:PE X a ta):PC X .Is a (.Constant .none j pos') (G9 ta):=by
 intro pins s Ic H Q I h
 refine br (ha pins s Ic H _ I h) fun v s1 ⟨x,H1,I1,r1,q1⟩=>?_
 exact Constant_none (is_none_gen ⟨.bl _,H1,I1,by rw [r1.vj];rfl,q1⟩)
theorem dY {j pos'}(ha:PE X a ta):PC X .IsNot a (.Constant .none j pos') (F9 ta):=by
 intro pins s Ic H Q I h
 refine br (ha pins s Ic H _ I h) fun v s1 ⟨x,H1,I1,r1,q1⟩=>?_
 exact Constant_none (isnot_none_gen ⟨.bl _,H1,I1,by rw [r1.vj];rfl,q1⟩)
inductive Ga (Q:(Bool->Hp->Prop)) (x:V) (H1:Hp):Prop
 | mk (c:_) (_:x=.bl c) (_:Q c H1)
def tB (t:TE):TT:=fun Ic H Q=>t Ic H fun x H1=>Ga Q x H1
theorem i5 {op:CmpOp}{t:TE}(h:PC X op a b t)(h1:behindInMarks op b=false:=by first | exact vi _ (by decide) (by decide) | rfl):PE X (.Compare a [op] [b] pos) t:=fun pins s Ic H Q I hw=>wpAny_Compare1 (h pins s Ic H Q I hw) h1
theorem dz {op:CmpOp}{t:TE}(h:PC X op a b t)(h1:behindInMarks op b=false:=by first | exact vi _ (by decide) (by decide) | rfl):PT X (.Compare a [op] [b] pos) (tB t):=by
 intro pins s Ic H Q I hw
 refine wpAny_isTrue_Compare1 (br (h pins s Ic H _ I hw) fun v s1 h1=>br h1 fun u s2 h2=>br h2 fun c s3 ⟨x,H1,I1,r1,q1⟩=>?_) h1
 obtain⟨d,rfl,q⟩:=q1
 cases r1
 exact K4 ⟨H1,I1,q⟩
theorem i6 {e:Expr}{t:TE}(h:PE X e t)(he:∀whole,isTrue e X.env whole=(do let v <-whole;standAt e.pos;holding [v] (truthy v)):=by intro _;rfl):PT X e (tB t):=by
 intro pins s Ic H Q I hw
 refine isTrue_plain (br (h pins s Ic H _ I hw) fun v s1 ⟨x,H1,I1,r1,q1⟩=>?_) (he _)
 obtain⟨d,rfl,q⟩:=q1
 cases r1
 exact K4 ⟨H1,I1,q⟩
variable {tA tB':TT}{rest:List Expr}
def Ha (t u:TT):TT:=fun Ic H Q=>t Ic H fun c H1=>if c=true then u Ic H1 Q else Q false H1
def HG (t u:TT):TT:=fun Ic H Q=>t Ic H fun c H1=>if c=true then Q true H1 else u Ic H1 Q
def Hb (t:TT):TT:=fun Ic H Q=>t Ic H fun c H1=>Q (!c) H1
theorem gn (ha:PT X a tA):PW X (.BoolOp .And [a] pos) tA:=by
 intro wh pins s Ic H Q I h
 refine isTrue_and (br (ha pins s Ic H Q I h) fun c s1 e=>?_)
 cases c with
 | true=>exact isTrue_and_nil e
 | false=>exact e
theorem mU (ha:PT X a tA):PW X (.BoolOp .Or [a] pos) tA:=by
 intro wh pins s Ic H Q I h
 refine isTrue_or (br (ha pins s Ic H Q I h) fun c s1 e=>?_)
 cases c with
 | false=>exact isTrue_or_nil e
 | true=>exact e
theorem gJ (ha:PT X a tA)(hb:PW X (.BoolOp .And (b::rest) pos) tB'):PW X (.BoolOp .And (a::b::rest) pos) (Ha tA tB'):=by
 intro wh pins s Ic H Q I h
 refine isTrue_and (br (ha pins s Ic H _ I h) fun c s1 ⟨H1,I1,q1⟩=>?_)
 cases c with
 | true=>exact hb wh pins s1 Ic H1 Q I1 q1
 | false=>exact⟨H1,I1,q1⟩
theorem qw (ha:PT X a tA)(hb:PW X (.BoolOp .Or (b::rest) pos) tB'):PW X (.BoolOp .Or (a::b::rest) pos) (HG tA tB'):=by
 intro wh pins s Ic H Q I h
 refine isTrue_or (br (ha pins s Ic H _ I h) fun c s1 ⟨H1,I1,q1⟩=>?_)
 cases c with
 | true=>exact⟨H1,I1,q1⟩
 | false=>exact hb wh pins s1 Ic H1 Q I1 q1
theorem EK (ha:PT X a tA):PT X (.UnaryOp .Not a pos) (Hb tA):=by
 intro pins s Ic H Q I h
 exact isTrue_not (ha pins s Ic H (fun c H1=>Q (!c) H1) I h)
inductive Bb (tb:TE) (Ic : St) (Q:VK) (x:V) (H1:Hp):Prop
 | mk (c:_) (_:x=.bl c) (_:if c=true then tb Ic H1 Q else Q (.bl false) H1)
def Gb (ta tb:TE):TE:=fun Ic H Q=>ta Ic H fun x H1=>Bb tb Ic Q x H1
inductive Dt (tb:TE) (Ic : St) (Q:VK) (x:V) (H1:Hp):Prop
 | mk (c:_) (_:x=.bl c) (_:if c=true then Q (.bl true) H1 else tb Ic H1 Q)
def Hc (ta tb:TE):TE:=fun Ic H Q=>ta Ic H fun x H1=>Dt tb Ic Q x H1
theorem fU {op}{t:TE}(h:PE X a t):PE X (.BoolOp op [a] pos) t:=fun pins s Ic H Q I hw=>BoolOp_one (h pins s Ic H Q I hw)
theorem mV (ha:PE X a ta)(hb:PE X (.BoolOp .And (b::rest) pos) tb):PE X (.BoolOp .And (a::b::rest) pos) (Gb ta tb):=by
 intro pins s Ic H Q I h
 refine BoolOp_and (br (ha pins s Ic H _ I h) fun v s1 ⟨x,H1,I1,r1,q1⟩=>?_)
 obtain⟨c,rfl,q1⟩:=q1
 cases r1
 refine K4 ?_
 cases c with
 | true=>exact hb pins s1 Ic H1 Q I1 q1
 | false=>exact⟨.bl false,H1,I1,rfl,q1⟩
theorem oi (ha:PE X a ta)(hb:PE X (.BoolOp .Or (b::rest) pos) tb):PE X (.BoolOp .Or (a::b::rest) pos) (Hc ta tb):=by
 intro pins s Ic H Q I h
 refine BoolOp_or (br (ha pins s Ic H _ I h) fun v s1 ⟨x,H1,I1,r1,q1⟩=>?_)
 obtain⟨c,rfl,q1⟩:=q1
 cases r1
 refine K4 ?_
 cases c with
 | false=>exact hb pins s1 Ic H1 Q I1 q1
 | true=>exact⟨.bl true,H1,I1,rfl,q1⟩
def HI (t:TT)(ta tb:TE):TE:=fun Ic H Q=>t Ic H fun c H1=>if c=true then ta Ic H1 Q else tb Ic H1 Q
theorem fV {c:Expr}(hc:PT X c tA)(ha:PE X a ta)(hb:PE X b tb):PE X (.IfExp c a b pos) (HI tA ta tb):=by
 intro pins s Ic H Q I h
 refine wpAny_IfExp (br (hc pins s Ic H _ I h) fun d s1 ⟨H1,I1,q1⟩=>?_)
 cases d with
 | true=>exact ha pins s1 Ic H1 Q I1 q1
 | false=>exact hb pins s1 Ic H1 Q I1 q1
end
def aN (K:Ih)(H:Hp)(a:Addr)(xs:List V):Prop :=
 Rd H a (.lst xs) \/
  ∃(o:Obj) (its:Array Value) (n:Nat),K.lookup a=some o/\o.cls=.type "list" /\ o.dict=none/\o.data=.seq its n/\its.size<=sizeLine/\Vals xs its.toList
def ar (K:Ih)(H:Hp)(a:Addr)(xs:List V):Prop :=
 Rd H a (.tup xs) \/
  ∃(o:Obj) (its:Array Value) (n:Nat),K.lookup a=some o/\o.cls=.type "tuple" /\ o.data=.seq its n/\its.size<=sizeLine/\Vals xs its.toList
def Hd:Value->Option V
 | .none=>some .aT
 | .bool b=>some (.bl b)
 | .int i _=>some (.int i)
 | .str x _=>some (.str x)
 | .bytes b _=>some (.kU b)
 | .float b _=>some (.zB b)
 | .ref a=>some (.ref a)
 | .type n=>some (.ty n)
 | _=>none
theorem RelV.abs {x:V}{u:Value}(r:RelV x u):Hd u=some x:=by
 cases x with
 | aT=>cases r;rfl
 | bl _=>cases r;rfl
 | int _=>obtain⟨t,rfl⟩:=r;rfl
 | str _=>obtain⟨t,rfl⟩:=r;rfl
 | kU _=>obtain⟨t,rfl⟩:=r;rfl
 | zB _=>obtain⟨t,rfl⟩:=r;rfl
 | ref _=>cases r;rfl
 | ty _=>cases r;rfl
theorem RelV.inj {x y:V}{u:Value}(r:RelV x u)(q:RelV y u):x=y:=IA.inj (r.abs.symm.trans q.abs)
theorem Vals.inj:∀{xs ys:List V} {us:List Value},Vals xs us->Vals ys us->xs=ys
 | _,_,_,.nil,.nil=>rfl
 | _,_,_,.cons r t,.cons r' t'=>by rw [r.inj r',Vals.inj t t']
section
variable {X:Cx}{pins:List (Addr×Obj)}{Ic : St}{H:Hp}{s:Shared}{a:Addr}{xs ys:List V}
theorem aN.of {K:Ih}(h:H a=some (.lst xs)):aN K H a xs:=.inl (.inl h)
theorem ar.of {K:Ih}(h:H a=some (.tup xs)):ar K H a xs:=.inl (.inl h)
theorem Inv.list (I:Inv X pins Ic H s)(h:aN X.K H a xs):∃its:List Value,Vals xs its/\PlainL s.heap a its.toArray/\xs.length<=sizeLine:=by
 rcases h with h | ⟨o,its,n,hk,hc,hd,hs,hz,r⟩
 ·obtain⟨z,its,n,r,e⟩:=h.ok I.aW
  exact⟨its,r,⟨_,n,e,rfl,rfl,rfl⟩,z⟩
 ·refine⟨its.toList,r,⟨o,n,I.i0 a o hk,hc,hd,by simpa using hs⟩,?_⟩
  have e:=r.length
  simp only [Jg] at e
  omega
theorem Inv.tuple (I:Inv X pins Ic H s)(h:ar X.K H a xs):∃its:List Value,Vals xs its/\IsTup s.heap a its.toArray/\xs.length<=sizeLine:=by
 rcases h with h | ⟨o,its,n,hk,hc,hs,hz,r⟩
 ·obtain⟨z,its,r,o,e,c,n,d,_⟩:=h.ok I.aW
  exact⟨its,r,⟨o,e,c,n,d⟩,z⟩
 ·refine⟨its.toList,r,⟨o,I.i0 a o hk,hc,n,by simpa using hs⟩,?_⟩
  have e:=r.length
  simp only [Jg] at e
  omega
theorem Inv.lO (I:Inv X pins Ic H s)(h:aN X.K H a xs)(h':aN X.K H a ys):xs=ys:=by
 obtain⟨its,r,⟨o,n,e,_,_,d⟩,_⟩:=I.list h
 obtain⟨its',r',⟨o',n',e',_,_,d'⟩,_⟩:=I.list h'
 rw [e] at e';cases e'
 rw [d] at d'
 injection d' with d1 _
 have:its=its':=by simpa using congrArg Array.toList d1
 subst this
 exact r.inj r'
theorem Inv.ke (I:Inv X pins Ic H s)(h:ar X.K H a xs)(h':ar X.K H a ys):xs=ys:=by
 obtain⟨its,r,⟨o,e,_,n,d⟩,_⟩:=I.tuple h
 obtain⟨its',r',⟨o',e',_,n',d'⟩,_⟩:=I.tuple h'
 rw [e] at e';cases e'
 rw [d] at d'
 injection d' with d1 _
 have:its=its':=by simpa using congrArg Array.toList d1
 subst this
 exact r.inj r'
end
abbrev Cx.kA (X:Cx)(E:Value->Shared->Prop):Cx:={ X with xe:=E }
abbrev Cx.xq (X:Cx):Cx:=X.kA fun _ _=>False
theorem Cx.Ok.kA {X:Cx}(ok:X.Ok)(E:Value->Shared->Prop):(X.kA E).Ok :=
 ⟨ok.mod,ok.kind,ok.glob,ok.blt,ok.above,ok.inj,ok.has,ok.zE,ok.hd,ok.frames,ok.CY,ok.GP,ok.bs,ok.qt,ok.ve,ok.yx,ok.jf,ok.vf⟩
theorem Cx.Ok.i7 {X:Cx}{E:Value->Shared->Prop}(ok:(X.kA E).Ok):X.Ok :=
 ⟨ok.mod,ok.kind,ok.glob,ok.blt,ok.above,ok.inj,ok.has,ok.zE,ok.hd,ok.frames,ok.CY,ok.GP,ok.bs,ok.qt,ok.ve,ok.yx,ok.jf,ok.vf⟩
section
variable {X:Cx}{pins:List (Addr×Obj)}{Ic : St}{H:Hp}{s:Shared}{E:Value->Shared->Prop}
theorem Inv.kA (I:Inv X pins Ic H s)(E:Value->Shared->Prop):Inv (X.kA E) pins Ic H s:=⟨I.ok.kA E,I.os,I.bare,I.base,I.loc,I.cell,I.free,I.fD,I.pin,I.aW,I.len⟩
theorem Inv.i7 (I:Inv (X.kA E) pins Ic H s):Inv X pins Ic H s:=⟨I.ok.i7,I.os,I.bare,I.base,I.loc,I.cell,I.free,I.fD,I.pin,I.aW,I.len⟩
theorem SP.i7 {D:Ends}{f:Flow}{s':Shared}(h:SP (X.kA E) pins D f s'):SP X pins D f s':=by
 cases f with
 | next=>obtain⟨σ',H',I,q⟩:=h;exact⟨σ',H',I.i7,q⟩
 | brk=>obtain⟨σ',H',I,q⟩:=h;exact⟨σ',H',I.i7,q⟩
 | cont=>obtain⟨σ',H',I,q⟩:=h;exact⟨σ',H',I.i7,q⟩
 | ret u=>obtain⟨v,σ',H',I,r,q⟩:=h;exact⟨v,σ',H',I.i7,r,q⟩
theorem jE.xq {st:List Stmt}{t:TS}(h:jE X.xq st t):jE X st t:=fun pins s Ic H D I hw =>
 KW (h pins s Ic H D (I.kA _) hw) (fun _ _ q=>q.i7) fun _ _ z=>False.elim z
end
section
variable {X:Cx}{st:Stmt}{rest:List Stmt}{t u:TS}{e:Expr}{te:TE}{pos:Pos}
def Gd:TS:=fun D Ic H=>D.nx Ic H
def He (t u:TS):TS:=fun D Ic H=>t { D with nx:=u D } Ic H
theorem aQ:jE X [] Gd:=fun _ _ Ic H _ I h=>Lk ⟨Ic,H,I,h⟩
theorem af (h1:PS X st t)(h2:jE X rest u):jE X (st::rest) (He t u):=by
 intro pins s Ic H D I h
 refine wpAny_execs_cons (br (h1 pins s Ic H { D with nx:=u D } I h) fun f s1 q=>?_)
 cases f with
 | next =>
  obtain⟨σ',H',I',q⟩:=q
  exact h2 pins s1 σ' H' D I' q
 | ret v=>exact q
 | brk=>exact q
 | cont=>exact q
theorem ai (h1:PS X st t):jE X [st] t:=by
 intro pins s Ic H D I h
 refine wpAny_execs_cons (br (h1 pins s Ic H D I h) fun f s1 q=>?_)
 cases f with
 | next=>exact Lk q
 | ret v=>exact q
 | brk=>exact q
 | cont=>exact q
theorem Inv.quiet {pins:List (Addr×Obj)}{Ic : St}{H:Hp}{s:Shared}(I:Inv X pins Ic H s):interactive X.env=false:=by simp [interactive,I.ok.kind]
def Ge (te:TE):TS:=fun D Ic H=>te Ic H fun _ H1=>D.nx Ic H1
theorem dZ (he:PE X e te)(hs:swapsWith e none pos.line X.env=pure false:=by rfl):PS X (.Expr e pos) (Ge te):=by
 intro pins s Ic H D I h
 exact wpAny_Expr_any (br (he pins s Ic H _ I h) fun v s1 ⟨x,H1,I1,r1,q1⟩=>⟨Ic,H1,I1,q1⟩) I.quiet hs
def EL (te:TE):TS:=fun D Ic H=>te Ic H D.rt
theorem ay (he:PE X e te):PS X (.Return (some e) pos) (EL te):=by
 intro pins s Ic H D I h
 exact wpAny_Return_some (br (he pins s Ic H _ I h) fun v s1 ⟨x,H1,I1,r1,q1⟩=>⟨x,Ic,H1,I1,r1,q1⟩)
def Hf (c:TT)(t u:TS):TS:=fun D Ic H=>c Ic H fun b H1=>if b=true then t D Ic H1 else u D Ic H1
theorem bo {c:Expr}{a b:List Stmt}{tc:TT}(hc:PT X c tc)(ha:jE X a t)(hb:jE X b u):PS X (.If c a b pos) (Hf tc t u):=by
 intro pins s Ic H D I h
 refine wpAny_If (br (hc pins s Ic H _ I h) fun d s1 ⟨H1,I1,q1⟩=>?_)
 cases d with
 | true=>exact ha pins s1 Ic H1 D I1 q1
 | false=>exact hb pins s1 Ic H1 D I1 q1
def EM:TS:=fun _ _ _=>False
theorem vk:PS X st EM:=fun _ _ _ _ _ _ h=>h.elim
end
abbrev TG:=V->St->Hp->(St->Hp->Prop)->Prop
abbrev vm:=List V->St->Hp->(St->Hp->Prop)->Prop
def PG (X:Cx)(target:Expr)(t:TG):Prop :=
 ∀(pins:List (Addr×Obj)) (s:Shared) (Ic : St) (H:Hp) (v:V) (u:Value) (Q:St->Hp->Prop),Inv X pins Ic H s->RelV v u->t v Ic H Q ->
  wpAny (model X.prog X.w) X.A (assign target X.env u) (fun _ s'=>∃σ' H',Inv X pins σ' H' s'/\Q σ' H') X.xe s
def CZ (X:Cx)(ts:List Expr)(t:vm):Prop :=
 ∀(pins:List (Addr×Obj)) (s:Shared) (Ic : St) (H:Hp) (vs:List V) (us:List Value) (Q:St->Hp->Prop),Inv X pins Ic H s->Vals vs us->t vs Ic H Q ->
  wpAny (model X.prog X.w) X.A (assignInOrder ((assignEach ts X.env).map (·.2)) us) (fun _ s'=>∃σ' H',Inv X pins σ' H' s'/\Q σ' H') X.xe s
abbrev Bc:=V->V->V->Hp->(Hp->Prop)->Prop
def Bd (X:Cx)(t:Bc):Prop :=
 ∀(pins:List (Addr×Obj)) (s:Shared) (Ic : St) (H:Hp) (o i v:V) (ov iv u:Value) (Q:Hp->Prop),Inv X pins Ic H s->RelV o ov->RelV i iv->RelV v u->t o i v H Q ->
  wpAny (model X.prog X.w) X.A (setItem ov iv u) (fun _ s'=>∃H',Inv X pins Ic H' s'/\Q H') X.xe s
section
variable {X:Cx}{pos:Pos}
def om (i:Nat):TG:=fun v Ic H Q=>Q (Ic.set i (some v)) H
theorem Du {i:Nat}{x:Str}(hN:X.N.Nodup)(hi:X.N[i]?=some x)(hx:Loc X.env.scope x)(hf:X.fn x=true\/X.env.scope.names.lookup x=some .local:=by first | exact .inl rfl | exact .inr rfl | assumption):PG X (.Name x pos) (om i):=by
 intro pins s Ic H v u Q I r h
 exact wpAny_assign_Name (lN I hN hi hx r (fun s' I'=>⟨_,H,I',h⟩) hf)
def Hg:vm:=fun vs Ic H Q=>vs=[]/\Q Ic H
inductive Gf (t:TG) (u:vm) (vs:List V) (Ic : St) (H:Hp) (Q:(St->Hp->Prop)):Prop
 | mk (v r:_) (_:vs=v::r) (_:t v Ic H fun σ' H'=>u r σ' H' Q)
theorem bM:CZ X [] Hg:=by
 intro pins s Ic H vs us Q I r h
 obtain⟨e,h⟩:=h
 subst e
 cases r
 exact assignInOrder_nil ⟨Ic,H,I,h⟩
theorem aG {e:Expr}{es:List Expr}{t:TG}{u:vm}(h1:PG X e t)(h2:CZ X es u)
  (hs:(assignEach (e::es) X.env).map (·.2)=assign e X.env::(assignEach es X.env).map (·.2):=by rfl):CZ X (e::es) (Gf t u):=by
 intro pins s Ic H vs us Q I r h
 obtain⟨v,vr,e1,h⟩:=h
 subst e1
 cases r with
 | cons r rr =>
  rw [hs]
  refine assignInOrder_cons (br (h1 pins s Ic H _ _ _ I r h) fun _ s1 ⟨σ1,H1,I1,q1⟩=>?_)
  exact h2 pins s1 σ1 H1 _ _ Q I1 rr q1
inductive Be (K:Ih) (n:Nat) (t:vm) (v:V) (Ic : St) (H:Hp) (Q:(St->Hp->Prop)):Prop
 | mk (a xs:_) (_:v=.ref a) (_:ar K H a xs) (_:xs.length=n) (_:t xs Ic H Q)
theorem bU {es:List Expr}{k:Nat}{t:vm}{n:Nat}(hc:X.calm=true)(h:CZ X es t)
  (hn:(assignEach es X.env).length=n:=by rfl) (hst:(assignEach es X.env).findIdx? (·.1)=none:=by rfl):PG X (.Tuple es k pos) (Be X.K n t):=by
 intro pins s Ic H v u Q I r hw
 obtain⟨a,xs,e1,hq,hl,hw⟩:=hw
 subst e1
 cases r
 obtain⟨its,rv,ht,hz⟩:=I.tuple hq
 refine assign_Tuple_tuple (I.ok.hd hc) ht (by simp [hn,<-hl,rv.length]) hst fun h' hx=>?_
 have I1:Inv X pins Ic H { s with heap:=h' }:=I.kept (t':=s.toks) fun b o e=>hx b o (Iq (Ik e)) e
 exact h pins _ Ic H xs _ Q I1 (by simpa using rv) hw
def Hh (to ti:TE)(t:Bc):TG:=fun v Ic H Q=>to Ic H fun o H1=>ti Ic H1 fun i H2=>t o i v H2 fun H3=>Q Ic H3
theorem kX {o i:Expr}{to ti:TE}{t:Bc}(ho:PE X o to)(hi:PE X i ti)(hs:Bd X t)
  (ha:∀v,assign (.Subscript o i pos) X.env v=(do
   let ov <-holding [v] (eval o X.env)
   let iv <-holding [v,ov] (eval i X.env)
   standAt pos
   holding [v,ov,iv] (setItem ov iv v)
   release [v,ov,iv] []):=by intro _;rfl):PG X (.Subscript o i pos) (Hh to ti t):=by
 intro pins s Ic H v u Q I r h
 rw [ha]
 refine KS (KY (br (ho pins s Ic H _ I h) fun ov s1 ⟨x,H1,I1,r1,q1⟩=>?_))
 refine KS (KY (br (hi pins s1 Ic H1 _ I1 q1) fun iv s2 ⟨y,H2,I2,r2,q2⟩=>?_))
 refine KS (K8 (KS (KY (br (hs pins s2 Ic H2 x y v ov iv u _ I2 r1 r2 r q2) fun _ s3 ⟨H3,I3,q3⟩=>?_))))
 exact wpAny_release ⟨Ic,H3,I3,q3⟩
def yy (te:TE)(g:TG):TS:=fun D Ic H=>te Ic H fun x H1=>g x Ic H1 D.nx
theorem cD {tg e:Expr}{te:TE}{g:TG}(he:PE X e te)(hg:PG X tg g)(hs:swapsWithSole [tg] e pos.line X.env=pure false:=by rfl)(hw:swappedStores [tg] e X.env=pure none:=by rfl)
  (h1:(assignEach [tg] X.env).map (·.2)=[assign tg X.env]:=by rfl):PS X (.Assign [tg] e pos) (yy te g):=by
 intro pins s Ic H D I h
 refine wpAny_Assign_stores (br (he pins s Ic H _ I h) fun v s1 ⟨x,H1,I1,r1,q1⟩=>?_) hs hw
 rw [h1]
 exact br (hg pins s1 Ic H1 x v _ I1 r1 q1) fun _ s2 q=>q
theorem EN {i:Nat}{x:Str}{e:Expr}{te:TE}{pos':Pos}(hN:X.N.Nodup)(hi:X.N[i]?=some x)(hx:Loc X.env.scope x)(he:PE X e te)(hs:swapsWith e (some (.Name x pos')) pos.line X.env=pure false:=by rfl)(hf:X.fn x=true\/X.env.scope.names.lookup x=some .local:=by first | exact .inl rfl | exact .inr rfl | assumption) :
  PS X (.Assign [.Name x pos'] e pos) (yy te (om i)):=by
 intro pins s Ic H D I h
 refine wpAny_Assign_Name (br (he pins s Ic H _ I h) fun v s1 ⟨y,H1,I1,r1,q1⟩=>?_) hs
 exact lN I1 hN hi hx r1 (fun s2 I2=>⟨_,H1,I2,q1⟩) hf
inductive Dv (i:Nat) (j:Nat) (D:Ends) (Ic : St) (vs:List V) (H1:Hp):Prop
 | mk (v w:_) (_:vs=[v,w]) (_:D.nx ((Ic.set i (some v)).set j (some w)) H1)
def Hi (i j:Nat)(ta:TA):TS:=fun D Ic H=>ta Ic H fun vs H1=>Dv i j D Ic vs H1
theorem EO {i j:Nat}{x y:Str}{a b:Expr}{ta:TA}{px py pt:Pos}{kt k2 pt2}(hc:X.calm=true)(hN:X.N.Nodup)(hi:X.N[i]?=some x)(hj:X.N[j]?=some y)(hij:i≠j)
  (hx:X.env.scope.names.lookup x=some .local) (hy:X.env.scope.names.lookup y=some .local) (ha:PA X [a,b] ta)
  (hw:swappedStores [.Tuple [.Name x px,.Name y py] kt pt] (.Tuple [a,b] k2 pt2) X.env=pure (some [x,y]))
  (hs:swapsWithSole [.Tuple [.Name x px,.Name y py] kt pt] (.Tuple [a,b] k2 pt2) pos.line X.env=pure false:=by rfl) :
  PS X (.Assign [.Tuple [.Name x px,.Name y py] kt pt] (.Tuple [a,b] k2 pt2) pos) (Hi i j ta):=by
 intro pins s Ic H D I h
 rw [exec_Assign_arm]
 refine KS (K8 ?_)
 rw [hs]
 refine KS (KU ?_)
 rw [if_neg (by decide)]
 refine KS (Tuple_ (br (ha _ pins s Ic H _ I h) fun us s1 ⟨vs,H1,I1,r1,q1⟩=>?_))
 obtain⟨v,w,e1,q1⟩:=q1
 subst e1
 obtain⟨u1,u2,rfl,rv,rw'⟩:∃u1 u2,us=[u1,u2]/\RelV v u1/\RelV w u2:=by
  cases r1 with
  | cons p q =>
   cases q with
   | cons p' q' =>
    cases q'
    exact⟨_,_,rfl,p,p'⟩
 refine K0 ?_ (by show 2<=sizeLine;decide)
 have I2:Inv X pins Ic H1 { s1 with heap:=s1.heap.push { cls:=.type "tuple",data:=.seq [u1,u2].toArray } }:=I1.kept (t':=s1.toks) fun b o e=>Im _ e
 rw [hw]
 refine KS (KU ?_)
 show wpAny (model X.prog X.w) X.A (do rule "assign.swapped-stores";let items <-unpackItems (.ref s1.heap.objs.size) 2 none;assignInOrder [fun v=>bindName X.env y v,fun v=>bindName X.env x v] items.reverse;pure Flow.next) _ _ _
 refine KS (K5 (KS (unpackItems_tuple (items:=#[u1,u2]) (I.ok.hd hc) (IsTup.new s1.heap _) fun h' hx'=>?_)))
 have I3:=I2.kept (h':=h') (t':=s1.toks) fun b o e=>hx' b o (Iq (Ik e)) e
 show wpAny _ _ (assignInOrder [fun v=>bindName X.env y v,fun v=>bindName X.env x v] [u2,u1] >>= fun _=>pure Flow.next) _ _ _
 refine KS (assignInOrder_cons (wpAny_bindName (lN I3 hN hj (.inl hy) rw' (fun s2 I4=>?_) (.inr hy))))
 refine assignInOrder_cons (wpAny_bindName (lN I4 hN hi (.inl hx) rv (fun s3 I5=>assignInOrder_nil (KU ?_)) (.inr hx)))
 rw [List.set_comm _ _ (Ne.symm hij)] at I5
 exact⟨_,H1,I5,q1⟩
end
section
variable {X:Cx}{pos:Pos}
def ER (c:TT)(tb:TS):TS:=fun D Ic H=>∃W:Nat->St->Hp->Prop,(∃m,W m Ic H)/\∀m Ic H,W m Ic H ->
 c Ic H fun b H1=>if b=true then ∃N:St->Hp->Prop,(∀σ' H',N σ' H'->∃m',m' < m/\W m' σ' H')/\tb { D with nx:=N,ct:=N,bk:=D.nx } Ic H1 else D.nx Ic H1
theorem vn {c:Expr}{body:List Stmt}{tc:TT}{tb:TS}(hp:PassesOwn (model X.prog X.w) X.A X.env X.xe)(hc:PT X c tc)(hb:jE X body tb):PS X (.While c body [] pos) (ER tc tb):=by
 intro pins s Ic H D I h
 obtain⟨W,⟨m0,w0⟩,turn⟩:=h
 refine wpAny_While (codeAny_whileLoop (fun n s'=>∃σ' H',Inv X pins σ' H' s'/\W n σ' H') ?_ m0 ⟨Ic,H,I,w0⟩)
 rintro n s1 ⟨σ1,H1,I1,w1⟩
 refine K9 hp (br (hc pins s1 σ1 H1 _ I1 (turn n σ1 H1 w1)) fun b s2 ⟨H2,I2,q2⟩=>?_)
 cases b with
 | true =>
  obtain⟨N,hN,q2⟩:=q2
  rw [if_pos rfl]
  refine K9 hp (br (hb pins s2 σ1 H2 _ I2 q2) fun f s3 q3=>?_)
  cases f with
  | next =>
   obtain⟨σ3,H3,I3,n3⟩:=q3
   obtain⟨m',hm,w3⟩:=hN σ3 H3 n3
   exact⟨m',hm,σ3,H3,I3,w3⟩
  | cont =>
   obtain⟨σ3,H3,I3,n3⟩:=q3
   obtain⟨m',hm,w3⟩:=hN σ3 H3 n3
   exact⟨m',hm,σ3,H3,I3,w3⟩
  | brk=>exact q3
  | ret v=>exact q3
 | false =>
  rw [if_neg IU]
  exact Lk ⟨σ1,H2,I2,q2⟩
end
structure It where
 go:Nat->Hp->Prop
 tJ:Nat->Hp->V->Hp->Prop
 stop:Nat->Hp->Prop
def hX (X:Cx)(pins:List (Addr×Obj))(H:Hp)(b:Addr):Prop :=
 H b=none/\b≠X.env.locals/\b∉X.fs/\(b∈X.ex\/X.eh.heap.objs.size<=b)/\(∀x c,X.env.cells.lookup x=some c->c≠b)/\∀p∈X.pn++pins,p.1≠b
theorem Inv.kB {X:Cx}{pins:List (Addr×Obj)}{Ic : St}{H H':Hp}{s:Shared}{b:Addr}(I:Inv X pins Ic H s)(hb:s.heap.objs.size<=b)(hn:H' b=none):hX X pins H' b:=by
 refine⟨hn,Ji (IM I.lt hb),I.G8 hb,.inr (Ir I.sz hb),fun x c e z=>?_,fun p hp z=>?_⟩
 ·obtain⟨v,q⟩:=I.cell x c e
  exact absurd (IM q.lt (by rw [z];exact hb)) (IJ _)
 ·exact absurd (IM (Ik (I.pin p hp).1) (by rw [z];exact hb)) (IJ _)
structure Turn (P:Program) (w:World) (K:Ih) (tg:Expr) (J:It) (fp:List Addr) (it:Addr) (tn:Nat->Heap->Prop):Prop where
 mem:it∈fp
 obj:∀i h,tn i h->∀b∈fp,∃o,h.get? b=some o/\∀v,o.data≠.cell v
 keep:∀i h h',tn i h->(∀b∈fp,∀o,h.get? b=some o->h'.get? b=some o)->tn i h'
 item:∀(X:Cx),X.prog=P->X.w=w->X.K=K->X.calm=true->∀(i:Nat) (pins:List (Addr×Obj)) (s:Shared) (Ic : St) (H:Hp) (E:Value->Shared->Prop),Inv X pins Ic H s->(∀b∈fp,hX X pins H b)->tn i s.heap->J.go i H ->
  wpAny (model P w) X.A (pyNext (.ref it)) (fun r s1=>∃u,r=some u /\
   wpAny (model P w) X.A (letOwnedTupleGo tg (.ref it) u) (fun _ s2=>∃x H',Inv X pins Ic H' s2/\RelV x u/\J.tJ i H x H'/\tn (i+1) s2.heap/\∀b∈fp,H' b=none) E s1) E s
 done:∀(X:Cx),X.prog=P->X.w=w->X.K=K->X.calm=true->∀(i:Nat) (pins:List (Addr×Obj)) (s:Shared) (Ic : St) (H:Hp) (E:Value->Shared->Prop),Inv X pins Ic H s->(∀b∈fp,hX X pins H b)->tn i s.heap->J.stop i H ->
  wpAny (model P w) X.A (pyNext (.ref it)) (fun r s1=>r=none/\Inv X pins Ic H s1) E s
 self:∀(A:Around) (i:Nat) (s:Shared) (Q:Value->Shared->Prop) (E:Value->Shared->Prop),tn i s.heap->Q (.ref it) s->wpAny (model P w) A (pyIter (.ref it)) Q E s
abbrev TI:=St->Hp->(It->Hp->Prop)->Prop
def GQ (X:Cx)(pins:List (Addr×Obj))(Ic : St)(tg:Expr)(R:It->Hp->Prop)(itv:Value)(s2:Shared):Prop :=
 ∃(it:Addr) (fp:List Addr) (tn:Nat->Heap->Prop) (J:It) (H':Hp),itv=.ref it/\Inv X pins Ic H' s2/\Turn X.prog X.w X.K tg J fp it tn/\tn 0 s2.heap/\(∀b∈fp,hX X pins H' b)/\R J H'
def PI (X:Cx)(tg iter:Expr)(wi:TI):Prop :=
 ∀(pins:List (Addr×Obj)) (s:Shared) (Ic : St) (H:Hp) (R:It->Hp->Prop),Inv X pins Ic H s->wi Ic H R ->
  wpAny (model X.prog X.w) X.A (eval iter X.env) (fun v s1=>wpAny (model X.prog X.w) X.A (pyIter v) (GQ X pins Ic tg R) X.xe s1) X.xe s
theorem uY {M:Model}{A:Around}{E:Value->Shared->Prop}{s:Shared}{tg:Expr}{it:Addr}{u:Value}{o:Obj}{n:String}{vs:Array Value}{Q:Unit->Shared->Prop}(ho:s.heap.get? it=some o)(hc:o.cls=.type n)(hd:o.data=.fields vs)
    (hn:["enumerate", "zip", "dict_itemiterator", "dict_reverseitemiterator", "odict_iterator", "itertools.zip_longest", "itertools.pairwise"].contains n=false) (hQ:Q () s):wpAny M A (letOwnedTupleGo tg (.ref it) u) Q E s:=by
  unfold letOwnedTupleGo
  cases tg <;> first
    | exact KU hQ
    | (cases u <;> first
        | exact KU hQ
        | (refine KS (wpAny_load ho ?_)
           rw [hc,hd]
           show wpAny M A (if (["enumerate", "zip", "dict_itemiterator", "dict_reverseitemiterator", "odict_iterator", "itertools.zip_longest", "itertools.pairwise"].contains n&&vs[0]? == some (rawInt _))=true then _ else _) Q E s
           rw [if_neg (by intro h;rw [hn,Kd] at h;cases h)]
           exact KU hQ))
def xr (K:Ih)(a:Addr):It :=
 ⟨fun i H=>∃xs x,aN K H a xs/\xs[i]?=some x,fun i H x H'=>H' = H/\∀xs,aN K H a xs->xs[i]?=some x,fun i H=>∃xs,aN K H a xs/\xs.length<=i⟩
def xt (K:Ih)(a:Addr):It :=
 ⟨fun i H=>∃xs x,ar K H a xs/\xs[i]?=some x,fun i H x H'=>H' = H/\∀xs,ar K H a xs->xs[i]?=some x,fun i H=>∃xs,ar K H a xs/\xs.length<=i⟩
def vo (lo:Int)(n:Nat):It:=⟨fun i _=>i<n,fun i H x H'=>H' = H/\x=.int (lo+i),fun i _=>n<=i⟩
theorem zF {P:Program}{w:World}{K:Ih}{tg:Expr}(a it:Addr):Turn P w K tg (xr K a) [it] it (fun i h=>h.IsListIter it a i) where
 mem:=by simp
 obj:=fun i h st b hb=>by
  have e:b=it:=by simpa using hb
  subst e
  obtain⟨o,e,c,d⟩:=st
  exact⟨o,e,fun v z=>by rw [d] at z;cases z⟩
 keep:=fun i h h' st k=>st.at fun o e=>k it (by simp) o e
 item:=by
  intro X hP hw hK hc i pins s Ic H E I hf st hg
  subst hP hw hK
  obtain⟨xs,x,hq,hx⟩:=hg
  obtain⟨its,rv,p,hz⟩:=I.list hq
  obtain⟨u,hu,ru⟩:=rv.get hx
  obtain⟨f0,f1,f2,f3,f4,f5⟩:=hf it (by simp)
  refine wpAny_pyNext_list_item st p.isList (x:=u) (by simpa using hu) fun h' st' sb=>?_
  have I1:Inv X pins Ic H { s with heap:=h' }:=I.turned (t':=s.toks) (fun b o hb e=>(sb.2 b hb).trans e) f0 f1 f3 f4 f5
  obtain⟨o,e,c,d⟩:=id st'
  exact⟨u,rfl,uY (s:={ s with heap:=h' }) e c d (by decide) ⟨x,H,I1,ru,⟨rfl,fun ys hy=>by rw [I.lO hy hq];exact hx⟩,st',fun b hb=>(hf b hb).1⟩⟩
 done:=by
  intro X hP hw hK hc i pins s Ic H E I hf st hg
  subst hP hw hK
  obtain⟨xs,hq,hx⟩:=hg
  obtain⟨its,rv,p,hz⟩:=I.list hq
  obtain⟨f0,f1,f2,f3,f4,f5⟩:=hf it (by simp)
  have hl:=rv.length
  exact wpAny_pyNext_list_end (I.ok.hd hc) st p.isList (by simp;omega) fun h' eb=>⟨rfl,I.turned (t':=s.toks) (fun b o hb e=>eb b o hb e) f0 f1 f3 f4 f5⟩
 self:=fun _ _ _ _ _ st h=>wpAny_pyIter_listiter st h
theorem yz {P:Program}{w:World}{K:Ih}{tg:Expr}(a it:Addr):Turn P w K tg (xt K a) [it] it (fun i h=>h.IsTupleIter it a i) where
 mem:=by simp
 obj:=fun i h st b hb=>by
  have e:b=it:=by simpa using hb
  subst e
  obtain⟨o,e,c,d⟩:=st
  exact⟨o,e,fun v z=>by rw [d] at z;cases z⟩
 keep:=fun i h h' st k=>st.at fun o e=>k it (by simp) o e
 item:=by
  intro X hP hw hK hc i pins s Ic H E I hf st hg
  subst hP hw hK
  obtain⟨xs,x,hq,hx⟩:=hg
  obtain⟨its,rv,p,hz⟩:=I.tuple hq
  obtain⟨u,hu,ru⟩:=rv.get hx
  obtain⟨f0,f1,f2,f3,f4,f5⟩:=hf it (by simp)
  refine wpAny_pyNext_tuple_item st (show s.heap.IsTuple a its.toArray from p) (x:=u) (by simpa using hu) fun h' st' sb=>?_
  have I1:Inv X pins Ic H { s with heap:=h' }:=I.turned (t':=s.toks) (fun b o hb e=>(sb.2 b hb).trans e) f0 f1 f3 f4 f5
  obtain⟨o,e,c,d⟩:=id st'
  exact⟨u,rfl,uY (s:={ s with heap:=h' }) e c d (by decide) ⟨x,H,I1,ru,⟨rfl,fun ys hy=>by rw [I.ke hy hq];exact hx⟩,st',fun b hb=>(hf b hb).1⟩⟩
 done:=by
  intro X hP hw hK hc i pins s Ic H E I hf st hg
  subst hP hw hK
  obtain⟨xs,hq,hx⟩:=hg
  obtain⟨its,rv,p,hz⟩:=I.tuple hq
  obtain⟨f0,f1,f2,f3,f4,f5⟩:=hf it (by simp)
  have hl:=rv.length
  exact wpAny_pyNext_tuple_end (I.ok.hd hc) st (show s.heap.IsTuple a its.toArray from p) (by simp;omega) fun h' eb=>⟨rfl,I.turned (t':=s.toks) (fun b o hb e=>eb b o hb e) f0 f1 f3 f4 f5⟩
 self:=fun _ _ _ _ _ st h=>wpAny_pyIter_tupleiter st h
theorem yA {P:Program}{w:World}{K:Ih}{tg:Expr}(it:Addr)(lo:Int)(n:Nat):Turn P w K tg (vo lo n) [it] it (fun i h=>IsRangeIter h it (lo+(i:Nat)*1) ((n:Int)-(i:Nat)) 1) where
 mem:=by simp
 obj:=fun i h st b hb=>by
  have e:b=it:=by simpa using hb
  subst e
  exact⟨_,st,fun v z=>by
   have z':Data.fields _=Data.cell v:=z
   cases z'⟩
 keep:=fun i h h' st k=>k it (by simp) _ st
 item:=by
  intro X hP hw hK hc i pins s Ic H E I hf st hg
  subst hP hw hK
  obtain⟨f0,f1,f2,f3,f4,f5⟩:=hf it (by simp)
  have W:=Walks.range (prog:=X.prog) (w:=X.w) (I.ok.hd hc) it lo 1 n
  refine W.item i s _ _ hg st fun v h' tk hv st' kk=>?_
  obtain⟨t,rfl⟩:=hv
  have I1:Inv X pins Ic H { s with heap:=h',toks:=tk }:=I.turned (fun b o hb e=>kk b o (by simpa using hb) e) f0 f1 f3 f4 f5
  refine⟨_,rfl,uY (s:={ s with heap:=h',toks:=tk }) (n := "range_iterator") st' rfl rfl (by decide) ⟨.int (lo+i),H,I1,⟨t,?_⟩,⟨rfl,rfl⟩,st',fun b hb=>(hf b hb).1⟩⟩
  rw [Int.mul_one]
 done:=by
  intro X hP hw hK hc i pins s Ic H E I hf st hg
  subst hP hw hK
  obtain⟨f0,f1,f2,f3,f4,f5⟩:=hf it (by simp)
  exact wpAny_pyNext_range_end (I.ok.hd hc) st (by have:n<=i:=hg;omega) fun h' eb=>⟨rfl,I.turned (t':=s.toks) (fun b o hb e=>eb b o hb e) f0 f1 f3 f4 f5⟩
 self:=fun _ _ _ _ _ st h=>wpAny_pyIter_rangeiter st h
section
variable {X:Cx}{tg:Expr}
inductive Bf (K:Ih) (R:(It->Hp->Prop)) (x:V) (H1:Hp):Prop
 | mk (a:_) (_:x=.ref a) (_:(∃xs,aN K H1 a xs)) (_:R (xr K a) H1)
def Gg (K:Ih)(tl:TE):TI:=fun Ic H R=>tl Ic H fun x H1=>Bf K R x H1
inductive Dw (K:Ih) (R:(It->Hp->Prop)) (x:V) (H1:Hp):Prop
 | mk (a:_) (_:x=.ref a) (_:(∃xs,ar K H1 a xs)) (_:R (xt K a) H1)
def Hj (K:Ih)(tl:TE):TI:=fun Ic H R=>tl Ic H fun x H1=>Dw K R x H1
theorem iC {l:Expr}{tl:TE}(hl:PE X l tl):PI X tg l (Gg X.K tl):=by
 intro pins s Ic H R I h
 refine br (hl pins s Ic H _ I h) fun v s1 ⟨x,H1,I1,r1,q1⟩=>?_
 obtain⟨a,e,⟨xs,hq⟩,q⟩:=q1
 subst e
 cases r1
 obtain⟨its,rv,p,hz⟩:=I1.list hq
 refine Lu p.isList ?_
 refine⟨s1.heap.objs.size,[s1.heap.objs.size],_,_,H1,rfl,I1.kept (t':=s1.toks) fun b o e=>Im _ e,zF a _,⟨_,Ip _ rfl,rfl,rfl⟩,fun b hb=>?_,q⟩
 have e:b=s1.heap.objs.size:=by simpa using hb
 subst e
 exact I1.kB (Ij _) (I1.aW.fresh (Ij _))
theorem d9 {l:Expr}{tl:TE}(hl:PE X l tl):PI X tg l (Hj X.K tl):=by
 intro pins s Ic H R I h
 refine br (hl pins s Ic H _ I h) fun v s1 ⟨x,H1,I1,r1,q1⟩=>?_
 obtain⟨a,e,⟨xs,hq⟩,q⟩:=q1
 subst e
 cases r1
 obtain⟨its,rv,p,hz⟩:=I1.tuple hq
 refine La (show s1.heap.IsTuple a its.toArray from p) ?_
 refine⟨s1.heap.objs.size,[s1.heap.objs.size],_,_,H1,rfl,I1.kept (t':=s1.toks) fun b o e=>Im _ e,yz a _,⟨_,Ip _ rfl,rfl,rfl⟩,fun b hb=>?_,q⟩
 have e:b=s1.heap.objs.size:=by simpa using hb
 subst e
 exact I1.kB (Ij _) (I1.aW.fresh (Ij _))
theorem Bg {pins:List (Addr×Obj)}{Ic : St}{H:Hp}{s:Shared}{R:It->Hp->Prop}{E:Value->Shared->Prop}{lo hi:Int}{t u v:Tok}{tk:Nat}(I:Inv X pins Ic H s)(h1:-(2 ^ 62)<=lo)(h2:lo<2 ^ 62)(h3:-(2 ^ 62)<=hi)(h4:hi<2 ^ 62)
  (q:R (vo lo (hi-lo).toNat) H):wpAny (model X.prog X.w) X.A (pyIter (.ref s.heap.objs.size)) (GQ X pins Ic tg R) E { s with heap:=s.heap.push { cls:=.type "range",data:=.fields #[.int lo t,.int hi u,.int 1 v] },toks:=tk }:=by
 refine wpAny_pyIter_range (IsRange.new ..) (small_one h1 h2 h3 h4) ?_
 have I1:Inv X pins Ic H { s with heap:=s.heap.push { cls:=.type "range",data:=.fields #[.int lo t,.int hi u,.int 1 v] },toks:=tk }:=I.kept fun b o e=>Im _ e
 refine⟨(s.heap.push { cls:=.type "range",data:=.fields #[.int lo t,.int hi u,.int 1 v] }).objs.size,[(s.heap.push { cls:=.type "range",data:=.fields #[.int lo t,.int hi u,.int 1 v] }).objs.size],_,_,H,rfl,
  I1.kept (t':=tk) fun b o e=>Im _ e,yA _ lo (hi-lo).toNat,?_,fun b hb=>?_,q⟩
 ·have e1:lo+((0:Nat):Int)*1=lo:=by simp
  have e2:(((hi-lo).toNat:Nat):Int)-((0:Nat):Int)=Builtin.Range.rangeSize lo hi 1:=by rw [rangeSize_one];split <;> omega
  show IsRangeIter _ _ (lo+((0:Nat):Int)*1) ((((hi-lo).toNat:Nat):Int)-((0:Nat):Int)) 1
  rw [e1,e2]
  exact Ip _ rfl
 ·have e:b=(s.heap.push { cls:=.type "range",data:=.fields #[.int lo t,.int hi u,.int 1 v] }).objs.size:=by simpa using hb
  subst e
  exact I1.kB (Ij _) (I1.aW.fresh (Ij _))
inductive Bh (R:(It->Hp->Prop)) (vs:List V) (H1:Hp):Prop
 | mk (j:Int) (_:vs=[.int j]) (_:-(2 ^ 62)<=j) (_:j<2 ^ 62) (_:R (vo 0 j.toNat) H1)
def Gh (ta:TA):TI:=fun Ic H R=>ta Ic H fun vs H1=>Bh R vs H1
theorem er {a:Expr} {ta:TA} {p pos:Pos} (hg:Gl X "range") (hm:X.mg "range" = none) (ha:PA X [a] ta) (hs:starEach [a] X.env=[(false,eval a X.env)]:=by rfl):PI X tg (.Call (.Name "range" p) [a] [] pos) (Gh ta):=by
 intro pins s Ic H R I h
 refine Call_ (jF I hg hm boot_range (PyProof.Rows.callWith_type1 (br (ha pos pins s Ic H _ I h) fun us s1 ⟨vs,H1,I1,r1,q1⟩=>?_) hs rfl))
 obtain⟨j,e,q1,q2,q⟩:=q1
 subst e
 cases r1 with
 | cons r rr =>
  cases rr
  obtain⟨t,rfl⟩:=r
  exact call_range_1 (Bg I1 (by omega) (by omega) q1 q2 (by simpa using q))
def Hk (wi:TI)(g:TG)(tb:TS):TS:=fun D Ic H=>wi Ic H fun J H1=>∃W:Nat->Nat->St->Hp->Prop,(∃m,W 0 m Ic H1)/\∀i m Ic H,W i m Ic H ->
 (J.stop i H/\D.nx Ic H)\/(J.go i H/\∃N:St->Hp->Prop,(∀σ' H',N σ' H'->∃m',m' < m/\W (i+1) m' σ' H')/\∀x H',J.tJ i H x H'->g x Ic H' fun σ2 H2=>tb { D with nx:=N,ct:=N,bk:=D.nx } σ2 H2)
def mW (fp:List Addr)(h:Heap):List (Addr×Obj):=fp.filterMap fun b=>(h.get? b).map fun o=>(b,o)
theorem jv {fp:List Addr}{h:Heap}{b:Addr}{o:Obj}(hb:b∈fp)(e:h.get? b=some o):(b,o)∈mW fp h:=KH.mpr ⟨b,hb,by rw [e];rfl⟩
theorem zG {fp:List Addr}{h:Heap}{p:Addr×Obj}(hp:p∈mW fp h):p.1∈fp/\h.get? p.1=some p.2:=by
 obtain⟨b,hb,e⟩:=KH.mp hp
 cases q:h.get? b with
 | none=>rw [q] at e;cases e
 | some o =>
  rw [q] at e
  have e':(b,o)=p:=IA.inj e
  subst e'
  exact⟨hb,q⟩
theorem Inv.pinned {pins:List (Addr×Obj)}{Ic : St}{H:Hp}{s:Shared}{fp:List Addr}(I:Inv X pins Ic H s)(hf:∀b∈fp,hX X pins H b)(ho:∀b∈fp,∃o,s.heap.get? b=some o/\∀v,o.data≠.cell v):Inv X (pins++mW fp s.heap) Ic H s :=
 I.xp fun p hp=>(IC.mp hp).elim (fun z=>I.pin p (IV _ z)) fun z=>by
  obtain⟨hb,e⟩:=zG z
  obtain⟨f0,f1,f2,_⟩:=hf p.1 hb
  obtain⟨o,e',d⟩:=ho p.1 hb
  rw [e] at e';cases e'
  exact⟨e,f0,f1,f2,d⟩
theorem Inv.jG {pins pl:List (Addr×Obj)}{Ic : St}{H:Hp}{s:Shared}(I:Inv X (pins++pl) Ic H s):Inv X pins Ic H s:=I.xp fun p hp=>I.pin p (IV _ (Jh _ hp))
theorem dA {iter:Expr}{body:List Stmt}{wi:TI}{g:TG}{tb:TS}{pos:Pos}(hp:PassesOwn (model X.prog X.w) X.A X.env X.xe)(hc:X.calm=true)(hi:PI X tg iter wi)(hg:PG X tg g)(hb:jE X body tb)
  (hs:∀x,foldedSetIterable iter X.env x=pure x:=by intro _;rfl):PS X (.For tg iter body [] pos) (Hk wi g tb):=by
 intro pins s Ic H D I h
 refine wpAny_For (br (hi pins s Ic H _ I h) fun v s1 h1=>br h1 fun itv s2 h2=>?_) hs
 obtain⟨it,fp,tn,J,H2,e,I2,T,st2,f2,W,⟨m0,w0⟩,turn⟩:=h2
 subst e
 have stat:∀{H':Hp},(∀b∈fp,H' b=none)->∀b∈fp,hX X pins H' b:=fun hn b hb=>⟨hn b hb,(f2 b hb).2⟩
 refine codeAny_forLoop_any (fun n s'=>∃i σ' H',Inv X pins σ' H' s'/\tn i s'.heap/\(∀b∈fp,H' b=none)/\W i n σ' H') ?_ m0 ⟨0,Ic,H2,I2,st2,fun b hb=>(f2 b hb).1,w0⟩
 rintro n s3 ⟨i,σ3,H3,I3,st3,fr3,w3⟩
 rcases turn i n σ3 H3 w3 with ⟨stop,qn⟩ | ⟨go,N,hN,step⟩
 ·refine K9 hp (br (T.done X rfl rfl rfl hc i pins s3 σ3 H3 X.xe I3 (stat fr3) st3 stop) fun r s4 ⟨hr,I4⟩=>?_)
  subst hr
  exact Lk ⟨σ3,H3,I4,qn⟩
 ·refine K9 hp (br (T.item X rfl rfl rfl hc i pins s3 σ3 H3 X.xe I3 (stat fr3) st3 go) fun r s4 ⟨u,hr,h4⟩=>?_)
  subst hr
  refine K9 hp (br h4 fun _ s5 ⟨x,H5,I5,r5,y5,st5,fr5⟩=>?_)
  have I5':=I5.pinned (stat fr5) (T.obj _ _ st5)
  refine K9 hp (br (hg _ s5 σ3 H5 x u _ I5' r5 (step x H5 y5)) fun _ s6 ⟨σ6,H6,I6,q6⟩=>?_)
  refine K9 hp (br (hb _ s6 σ6 H6 _ I6 q6) fun f s7 q7=>?_)
  have again:∀{σ7:St} {H7:Hp},Inv X (pins++mW fp s5.heap) σ7 H7 s7->N σ7 H7->∃m,m<n/\∃i σ' H',Inv X pins σ' H' s7/\tn i s7.heap/\(∀b∈fp,H' b=none)/\W i m σ' H':=fun {σ7 H7} I7 n7=>by
   obtain⟨m',hm,w7⟩:=hN σ7 H7 n7
   refine⟨m',hm,i+1,σ7,H7,I7.jG,T.keep _ _ _ st5 fun b hb o e=>(I7.pin (b,o) (IV _ (IV _ (jv hb e)))).1,fun b hb=>?_,w7⟩
   obtain⟨o,e,d⟩:=T.obj _ _ st5 b hb
   exact (I7.pin (b,o) (IV _ (IV _ (jv hb e)))).2.1
  cases f with
  | next=>obtain⟨σ7,H7,I7,n7⟩:=q7;exact again I7 n7
  | cont=>obtain⟨σ7,H7,I7,n7⟩:=q7;exact again I7 n7
  | brk=>obtain⟨σ7,H7,I7,q7⟩:=q7;exact⟨σ7,H7,I7.jG,q7⟩
  | ret v=>obtain⟨x7,σ7,H7,I7,r7,q7⟩:=q7;exact⟨x7,σ7,H7,I7.jG,r7,q7⟩
end
theorem vp {K:Ih}{a:Addr}{xs:List V}{g:TG}{tb:TS}{D:Ends}{Ic : St}{H:Hp}(Pv:Nat->St->Hp->Prop)(h0:Pv 0 Ic H)(hl:∀i Ic H,i<=xs.length->Pv i Ic H->aN K H a xs)
  (hs:∀i x Ic H,xs[i]?=some x->Pv i Ic H->g x Ic H fun σ2 H2=>tb { D with nx:=Pv (i+1),ct:=Pv (i+1),bk:=D.nx } σ2 H2) (hd:∀Ic H,Pv xs.length Ic H->D.nx Ic H) :
  ∃W:Nat->Nat->St->Hp->Prop,(∃m,W 0 m Ic H)/\∀i m Ic H,W i m Ic H ->
   ((xr K a).stop i H/\D.nx Ic H)\/((xr K a).go i H/\∃N:St->Hp->Prop,(∀σ' H',N σ' H'->∃m',m' < m/\W (i+1) m' σ' H')/\∀x H',(xr K a).tJ i H x H'->g x Ic H' fun σ2 H2=>tb { D with nx:=N,ct:=N,bk:=D.nx } σ2 H2):=by
 refine⟨fun i m Ic H=>m=xs.length-i/\i<=xs.length/\Pv i Ic H,⟨xs.length,by simp,IF _,h0⟩,?_⟩
 rintro i m Ic H ⟨rfl,hi,p⟩
 have q:=hl i Ic H hi p
 by_cases hlt:i<xs.length
 ·refine .inr ⟨⟨xs,xs[i],q,by simp [hlt]⟩,Pv (i+1),fun σ' H' p'=>⟨xs.length-(i+1),by omega,rfl,hlt,p'⟩,fun x H' y=>?_⟩
  obtain⟨e,y⟩:=y
  subst e
  exact hs i x Ic _ (y xs q) p
 ·have e:i=xs.length:=by omega
  subst e
  exact .inl ⟨⟨xs,q,Ij _⟩,hd Ic H p⟩
theorem fM {K:Ih}{a:Addr}{xs:List V}{g:TG}{tb:TS}{D:Ends}{Ic : St}{H:Hp}(Pv:Nat->St->Hp->Prop)(h0:Pv 0 Ic H)(hl:∀i Ic H,i<=xs.length->Pv i Ic H->ar K H a xs)
  (hs:∀i x Ic H,xs[i]?=some x->Pv i Ic H->g x Ic H fun σ2 H2=>tb { D with nx:=Pv (i+1),ct:=Pv (i+1),bk:=D.nx } σ2 H2) (hd:∀Ic H,Pv xs.length Ic H->D.nx Ic H) :
  ∃W:Nat->Nat->St->Hp->Prop,(∃m,W 0 m Ic H)/\∀i m Ic H,W i m Ic H ->
   ((xt K a).stop i H/\D.nx Ic H)\/((xt K a).go i H/\∃N:St->Hp->Prop,(∀σ' H',N σ' H'->∃m',m' < m/\W (i+1) m' σ' H')/\∀x H',(xt K a).tJ i H x H'->g x Ic H' fun σ2 H2=>tb { D with nx:=N,ct:=N,bk:=D.nx } σ2 H2):=by
 refine⟨fun i m Ic H=>m=xs.length-i/\i<=xs.length/\Pv i Ic H,⟨xs.length,by simp,IF _,h0⟩,?_⟩
 rintro i m Ic H ⟨rfl,hi,p⟩
 have q:=hl i Ic H hi p
 by_cases hlt:i<xs.length
 ·refine .inr ⟨⟨xs,xs[i],q,by simp [hlt]⟩,Pv (i+1),fun σ' H' p'=>⟨xs.length-(i+1),by omega,rfl,hlt,p'⟩,fun x H' y=>?_⟩
  obtain⟨e,y⟩:=y
  subst e
  exact hs i x Ic _ (y xs q) p
 ·have e:i=xs.length:=by omega
  subst e
  exact .inl ⟨⟨xs,q,Ij _⟩,hd Ic H p⟩
theorem kf {lo:Int}{n:Nat}{g:TG}{tb:TS}{D:Ends}{Ic : St}{H:Hp}(Pv:Nat->St->Hp->Prop)(h0:Pv 0 Ic H)
  (hs:∀i Ic H,i<n->Pv i Ic H->g (.int (lo+i)) Ic H fun σ2 H2=>tb { D with nx:=Pv (i+1),ct:=Pv (i+1),bk:=D.nx } σ2 H2) (hd:∀Ic H,Pv n Ic H->D.nx Ic H) :
  ∃W:Nat->Nat->St->Hp->Prop,(∃m,W 0 m Ic H)/\∀i m Ic H,W i m Ic H ->
   ((vo lo n).stop i H/\D.nx Ic H)\/((vo lo n).go i H/\∃N:St->Hp->Prop,(∀σ' H',N σ' H'->∃m',m' < m/\W (i+1) m' σ' H')/\∀x H',(vo lo n).tJ i H x H'->g x Ic H' fun σ2 H2=>tb { D with nx:=N,ct:=N,bk:=D.nx } σ2 H2):=by
 refine⟨fun i m Ic H=>m=n-i/\i<=n/\Pv i Ic H,⟨n,by simp,IF _,h0⟩,?_⟩
 rintro i m Ic H ⟨rfl,hi,p⟩
 by_cases hlt:i<n
 ·refine .inr ⟨hlt,Pv (i+1),fun σ' H' p'=>⟨n-(i+1),by omega,rfl,hlt,p'⟩,fun x H' y=>?_⟩
  obtain⟨e,y⟩:=y
  subst e y
  exact hs i Ic _ hlt p
 ·have e:i=n:=by omega
  subst e
  exact .inl ⟨Ij _,hd Ic H p⟩
abbrev R2:=V->V->Hp->VK->Prop
def d5 (X:Cx)(f:Value->Value->Sem Value)(r:R2):Prop :=
 ∀(pins:List (Addr×Obj)) (s:Shared) (Ic : St) (H:Hp) (x y:V) (v u:Value) (Q:VK),Inv X pins Ic H s->RelV x v->RelV y u->r x y H Q ->
  wpAny (model X.prog X.w) X.A (f v u) (EP X pins Ic Q) X.xe s
def eO (X:Cx)(f:Value)(r:List V->Hp->VK->Prop):Prop :=
 ∀(pins:List (Addr×Obj)) (s:Shared) (Ic : St) (H:Hp) (xs:List V) (us:List Value) (Q:VK),Inv X pins Ic H s->Vals xs us->r xs H Q ->
  wpAny (model X.prog X.w) X.A (call f us) (EP X pins Ic Q) X.xe s
def Hl (X:Cx)(r:V->Hp->(Bool->Hp->Prop)->Prop):Prop :=
 ∀(pins:List (Addr×Obj)) (s:Shared) (Ic : St) (H:Hp) (x:V) (v:Value) (Q:Bool->Hp->Prop),Inv X pins Ic H s->RelV x v->r x H Q ->
  wpAny (model X.prog X.w) X.A (truthy v) (TP X pins Ic Q) X.xe s
def zH (r:R2)(ta tb:TE):TE:=fun Ic H Q=>ta Ic H fun x H1=>tb Ic H1 fun y H2=>r x y H2 Q
inductive rI (C:Int->Int->Prop) (g:Int->Int->V) (x:V) (y:V) (H:Hp) (Q:VK):Prop
 | mk (i j:_) (_:x=.int i) (_:y=.int j) (_:C i j) (_:Q (g i j) H)
inductive tK (g:Int->Int->V) (x:V) (y:V) (H:Hp) (Q:VK):Prop
 | mk (i j:_) (_:x=.int i) (_:y=.int j) (_:Q (g i j) H)
section
variable {X:Cx}{a b c:Expr}{ta tb tc:TE}{pos:Pos}
theorem Bi (ha:PE X a ta)(hb:PE X b tb){pins:List (Addr×Obj)}{s:Shared}{Ic : St}{H:Hp}{R:V->V->Hp->Prop}(I:Inv X pins Ic H s)
  (h:ta Ic H fun x H1=>tb Ic H1 fun y H2=>R x y H2) {Q:Value->Shared->Prop} {f:Value->Value->Sem Value}
  (hf:∀v u s2 x y H2,Inv X pins Ic H2 s2->RelV x v->RelV y u->R x y H2->wpAny (model X.prog X.w) X.A (f v u) Q X.xe s2) :
  wpAny (model X.prog X.w) X.A (eval a X.env) (fun v s₁=>wpAny (model X.prog X.w) X.A (eval b X.env) (fun u s₂=>wpAny (model X.prog X.w) X.A (f v u) Q X.xe s₂) X.xe s₁) X.xe s:=by
 refine br (ha pins s Ic H _ I h) fun v s1 ⟨x,H1,I1,r1,q1⟩=>?_
 refine br (hb pins s1 Ic H1 _ I1 q1) fun u s2 ⟨y,H2,I2,r2,q2⟩=>?_
 exact hf v u s2 x y H2 I2 r1 r2 q2
theorem bc {op:Operator}{r:R2}(ho:d5 X (binaryOp op) r)(ha:PE X a ta)(hb:PE X b tb):PE X (.BinOp a op b pos) (zH r ta tb):=by
 intro pins s Ic H Q I h
 exact wpAny_BinOp (Bi ha hb I h fun v u s2 x y H2 I2 rx ry q=>ho pins s2 Ic H2 x y v u Q I2 rx ry q)
theorem xu {f:Value->Value->Sem Value}{C:Int->Int->Prop}{g:Int->Int->Int}
  (rule:∀(i j:Int) (t u:Tok) (s:Shared) (Q:Value->Shared->Prop) (E:Value->Shared->Prop),C i j->Q (.int (g i j) s.toks) { s with toks:=s.toks+1 }->wpAny (model X.prog X.w) X.A (f (.int i t) (.int j u)) Q E s) :
  d5 X f (rI C fun i j=>.int (g i j)):=by
 intro pins s Ic H x y v u Q I rx ry h
 obtain⟨i,j,rfl,rfl,hc,q⟩:=h
 obtain⟨t,rfl⟩:=rx
 obtain⟨t',rfl⟩:=ry
 exact rule i j t t' s _ _ hc ⟨.int (g i j),H,I.tok _,⟨_,rfl⟩,q⟩
theorem ES {f:Value->Value->Sem Value}{g:Int->Int->Int}
  (rule:∀(i j:Int) (t u:Tok) (s:Shared) (Q:Value->Shared->Prop) (E:Value->Shared->Prop),Q (.int (g i j) s.toks) { s with toks:=s.toks+1 }->wpAny (model X.prog X.w) X.A (f (.int i t) (.int j u)) Q E s) :
  d5 X f (tK fun i j=>.int (g i j)):=by
 intro pins s Ic H x y v u Q I rx ry h
 obtain⟨i,j,rfl,rfl,q⟩:=h
 obtain⟨t,rfl⟩:=rx
 obtain⟨t',rfl⟩:=ry
 exact rule i j t t' s _ _ ⟨.int (g i j),H,I.tok _,⟨_,rfl⟩,q⟩
theorem yB {f:Value->Value->Sem Value}{g:Int->Int->Bool}
  (rule:∀(i j:Int) (t u:Tok) (s:Shared) (Q:Value->Shared->Prop) (E:Value->Shared->Prop),Q (.bool (g i j)) s->wpAny (model X.prog X.w) X.A (f (.int i t) (.int j u)) Q E s) :
  d5 X f (tK fun i j=>.bl (g i j)):=by
 intro pins s Ic H x y v u Q I rx ry h
 obtain⟨i,j,rfl,rfl,q⟩:=h
 obtain⟨t,rfl⟩:=rx
 obtain⟨t',rfl⟩:=ry
 exact rule i j t t' s _ _ ⟨.bl (g i j),H,I,rfl,q⟩
def Hm (i j:Int):Prop:=0<j/\j<1073741824
def Hn (i j:Int):Prop:=0<=j/\j<=1000000/\i.natAbs<2 ^ 64
def Bj (i j:Int):Prop:=(-(2 ^ 64)<i/\i<2 ^ 64)\/(-(2 ^ 64)<j/\j<2 ^ 64)
theorem Bj.ok {i j:Int}(h:Bj i j):IntMulOk i j:=by
 rcases h with ⟨h1,h2⟩ | ⟨h1,h2⟩
 ·exact .of_left (intBits_le_64 h1 h2)
 ·exact .of_right (intBits_le_64 h1 h2)
theorem cY:d5 X (binaryOp .Add) (tK fun i j=>.int (i+j)):=ES fun _ _ _ _ _ _ _ q=>add_int q
theorem fW:d5 X (binaryOp .Sub) (tK fun i j=>.int (i-j)):=ES fun _ _ _ _ _ _ _ q=>sub_int q
theorem jH:d5 X (binaryOp .Mult) (rI Bj fun i j=>.int (i*j)):=xu fun _ _ _ _ _ _ _ hc q=>mul_int q hc.ok
theorem xw:d5 X (binaryOp .FloorDiv) (rI Hm fun i j=>.int (i / j)):=xu fun i j _ _ _ _ _ hc q=>by
 have h1:(0:Int)<j:=hc.1
 have h2:j<1073741824:=hc.2
 exact floordiv_int (by omega) (by rw [Int.fdiv_eq_ediv_of_nonneg i (by omega)];exact q) (.inl (PyProof.noPylong_small (by omega)))
theorem jI:d5 X (binaryOp .Mod) (rI (fun _ j=>0<j) fun i j=>.int (i % j)):=xu fun i j _ _ _ _ _ hc q=>by
 have h1:(0:Int)<j:=hc
 exact mod_int' (by omega) (by rw [Int.fmod_eq_emod_of_nonneg i (by omega)];exact q)
theorem qx:d5 X (binaryOp .Pow) (rI Hn fun i j=>.int (i ^ j.toNat)):=xu fun _ _ _ _ _ _ _ hc q=>pow_int_small hc.1 hc.2.1 hc.2.2 q
end
def ET:V->V->Bool
 | .aT,.aT=>true | .aT,.int _=>true | .int _,.aT=>true | .aT,.bl _=>true | .bl _,.aT=>true | .aT,.str _=>true | .str _,.aT=>true
 | .int _,.int _=>true | .bl _,.bl _=>true | .str _,.str _=>true | .kU _,.kU _=>true
 | .int _,.str _=>true | .str _,.int _=>true | .bl _,.str _=>true | .str _,.bl _=>true
 | _,_=>false
def HJ:R2:=fun x y H Q=>ET x y=true/\Q (.bl (decide (x=y))) H
theorem Dx {i j:Int}:decide (V.int i=V.int j)=(i == j):=by
 rw [JY]
 simp
theorem EU {i j:Bool}:decide (V.bl i=V.bl j)=(i == j):=by
 rw [JY]
 simp
theorem Dy {i j:Str}:decide (V.str i=V.str j)=(i == j):=by
 rw [JY]
 simp
theorem Dz {i j:Array UInt8}:decide (V.kU i=V.kU j)=(i.toList == j.toList):=by
 rw [JY]
 cases i
 cases j
 simp
section
variable {X:Cx}{a b c:Expr}{ta tb tc:TE}{pos:Pos}
theorem eC {pins:List (Addr×Obj)}{Ic : St}{H:Hp}{s:Shared}{Q:VK}{k k':Bool}(I:Inv X pins Ic H s)(q:Q (.bl k) H)(e:k=k'):EP X pins Ic Q (.bool k') s:=by
 subst e
 exact⟨.bl k,H,I,rfl,q⟩
theorem bT:d5 X (compareOp .Eq) HJ:=by
 intro pins s Ic H x y v u Q I rx ry h
 obtain⟨hs,q⟩:=h
 cases x with
 | aT =>
  cases rx
  cases y with
  | aT=>cases ry;exact PySem.EqNone.eq_none_none (eC I q (by simp))
  | bl j=>cases ry;exact PySem.EqNone.eq_none_bool (eC I q (by simp))
  | int j=>obtain⟨t',rfl⟩:=ry;exact PySem.EqNone.eq_none_int (eC I q (by simp))
  | str j=>obtain⟨t',rfl⟩:=ry;exact PySem.EqNone.eq_none_str (eC I q (by simp))
  | _=>exact absurd (show false=true from hs) IU
 | bl i =>
  cases rx
  cases y with
  | aT=>cases ry;exact PySem.EqNone.eq_bool_none (eC I q (by simp))
  | bl j=>cases ry;exact eq_bool (eC I q EU)
  | str j=>obtain⟨t',rfl⟩:=ry;exact PySem.EqMixed.eq_bool_str (eC I q (by simp))
  | _=>exact absurd (show false=true from hs) IU
 | int i =>
  obtain⟨t,rfl⟩:=rx
  cases y with
  | aT=>cases ry;exact PySem.EqNone.eq_int_none (eC I q (by simp))
  | int j=>obtain⟨t',rfl⟩:=ry;exact eq_int (eC I q Dx)
  | str j=>obtain⟨t',rfl⟩:=ry;exact PySem.EqMixed.eq_int_str (eC I q (by simp))
  | _=>exact absurd (show false=true from hs) IU
 | str i =>
  obtain⟨t,rfl⟩:=rx
  cases y with
  | aT=>cases ry;exact PySem.EqNone.eq_str_none (eC I q (by simp))
  | bl j=>cases ry;exact PySem.EqMixed.eq_str_bool (eC I q (by simp))
  | int j=>obtain⟨t',rfl⟩:=ry;exact PySem.EqMixed.eq_str_int (eC I q (by simp))
  | str j=>obtain⟨t',rfl⟩:=ry;exact eq_str (eC I q Dy)
  | _=>exact absurd (show false=true from hs) IU
 | kU i =>
  obtain⟨t,rfl⟩:=rx
  cases y with
  | kU j=>obtain⟨t',rfl⟩:=ry;exact PySem.W.eq_bytes (eC I q Dz)
  | _=>exact absurd (show false=true from hs) IU
 | _=>cases y <;> exact absurd (show false=true from hs) IU
theorem hZ:d5 X (compareOp .Lt) (tK fun i j=>.bl (decide (i<j))):=yB fun _ _ _ _ _ _ _ q=>lt_int q
theorem oo:d5 X (compareOp .LtE) (tK fun i j=>.bl (decide (i<=j))):=yB fun _ _ _ _ _ _ _ q=>le_int q
theorem lP:d5 X (compareOp .Gt) (tK fun i j=>.bl (decide (j<i))):=yB fun _ _ _ _ _ _ _ q=>gt_int q
theorem Gi:d5 X (compareOp .GtE) (tK fun i j=>.bl (decide (j<=i))):=yB fun _ _ _ _ _ _ _ q=>ge_int q
theorem aS (b:Expr){op:CmpOp}(h:op≠.In:=by decide)(h2:op≠.NotIn:=by decide):behindInMarks op b=false:=by
 have e1:(op == CmpOp.In)=false:=by cases op <;> first | rfl | exact absurd rfl h
 have e2:(op == CmpOp.NotIn)=false:=by cases op <;> first | rfl | exact absurd rfl h2
 cases b <;> simp [behindInMarks,e1,e2]
theorem fi {op:CmpOp}{r:R2}(ho:d5 X (compareOp op) r)(ha:PE X a ta)(hb:PE X b tb)(hm:behindInMarks op b=false):PE X (.Compare a [op] [b] pos) (zH r ta tb):=by
 intro pins s Ic H Q I h
 exact wpAny_Compare1 (Bi ha hb I h fun v u s2 x y H2 I2 rx ry q=>ho pins s2 Ic H2 x y v u Q I2 rx ry q) hm
inductive Bk (Q:(Bool->Hp->Prop)) (x:V) (H':Hp):Prop
 | mk (k:_) (_:x=.bl k) (_:Q k H')
def C0 (t:TE):TT:=fun Ic H Q=>t Ic H fun x H'=>Bk Q x H'
theorem aM {op:CmpOp}{r:R2}(ho:d5 X (compareOp op) r)(ha:PE X a ta)(hb:PE X b tb)(hm:behindInMarks op b=false):PT X (.Compare a [op] [b] pos) (C0 (zH r ta tb)):=by
 intro pins s Ic H Q I h
 refine wpAny_isTrue_Compare1 (br (ha pins s Ic H _ I h) fun v s1 ⟨x,H1,I1,r1,q1⟩=>br (hb pins s1 Ic H1 _ I1 q1) fun u s2 ⟨y,H2,I2,r2,q2⟩ =>
  br (ho pins s2 Ic H2 x y v u _ I2 r1 r2 q2) fun c s3 ⟨z,H3,I3,r3,k,e,q3⟩=>?_) hm
 subst e
 cases r3
 exact K4 ⟨H3,I3,q3⟩
inductive zI (r':R2) (tc:TE) (Ic : St) (Q:VK) (y:V) (z:V) (H3:Hp):Prop
 | mk (k:_) (_:z=.bl k) (_:(if k=true then tc Ic H3 fun w' H4=>r' y w' H4 Q else Q (.bl false) H3))
def EV (r r':R2)(ta tb tc:TE):TE:=fun Ic H Q=>ta Ic H fun x H1=>tb Ic H1 fun y H2=>r x y H2 fun z H3=>zI r' tc Ic Q y z H3
theorem Bm {op op':CmpOp}{r r':R2}(ho:d5 X (compareOp op) r)(ho':d5 X (compareOp op') r')(ha:PE X a ta)(hb:PE X b tb)(hc:PE X c tc)
  (hm:lastMarks [op,op'] [b,c]=false:=by with_unfolding_all rfl):PT X (.Compare a [op,op'] [b,c] pos) (C0 (EV r r' ta tb tc)):=by
 intro pins s Ic H Q I h
 refine isTrue_chain (br (ha pins s Ic H _ I h) fun v s1 ⟨x,H1,I1,r1,q1⟩=>test_link (br (hb pins s1 Ic H1 _ I1 q1) fun u s2 ⟨y,H2,I2,r2,q2⟩ =>
  br (ho pins s2 Ic H2 x y v u _ I2 r1 r2 q2) fun d s3 ⟨z,H3,I3,r3,k,e,q3⟩=>?_)) hm
 subst e
 cases r3
 refine K4 ?_
 cases k with
 | false =>
  obtain⟨k',e',q'⟩:=q3
  cases e'
  exact ite_ff ⟨H3,I3,q'⟩
 | true =>
  refine ite_tt (test_last (br (hc pins s3 Ic H3 _ I3 q3) fun w' s4 ⟨z',H4,I4,r4,q4⟩=>br (ho' pins s4 Ic H4 y z' u w' _ I4 r2 r4 q4) fun d' s5 ⟨z2,H5,I5,r5,k2,e2,q5⟩=>?_))
  subst e2
  cases r5
  exact K4 ⟨H5,I5,q5⟩
def EW (K:Ih)(x:V)(H:Hp)(k:Bool):Prop :=
 match x with
 | .aT=>k=false
 | .bl b=>k=b
 | .int i=>k=(i != 0)
 | .str y=>y.length<=sizeLine/\k=((y.length:Int) != 0)
 | .kU y=>y.size<=sizeLine/\k=((y.size:Int) != 0)
 | .ref p=>(∃xs,aN K H p xs/\k = !xs.isEmpty)\/(∃xs,ar K H p xs/\k = !xs.isEmpty)\/∃kvs,H p=some (.dK kvs)/\k = !kvs.isEmpty
 | _=>False
theorem yC {κ : Type}{kvs:List (κ×V)}{vs:List (κ×Value)}(r:KV kvs vs):(!vs.isEmpty) = !kvs.isEmpty:=by
 cases r <;> rfl
theorem qy {xs:List V}{its:List Value}(r:Vals xs its):(!its.toArray.isEmpty) = !xs.isEmpty:=by
 cases r <;> simp
theorem jJ:(sizeLine:Nat)<2 ^ 63:=by rw [sizeLine_eq];decide
theorem EX:Hl X (fun x H Q=>∃k,EW X.K x H k/\Q k H):=by
 intro pins s Ic H x v Q I rx h
 obtain⟨k,e,q⟩:=h
 have hl:=jJ
 have hs:sizeLine=16777216:=sizeLine_eq
 cases x with
 | aT =>
  cases rx
  have e':k=false:=e
  subst e'
  exact truthy_none ⟨H,I,q⟩
 | bl b =>
  cases rx
  have e':k=b:=e
  subst e'
  exact K4 ⟨H,I,q⟩
 | int i =>
  obtain⟨t,rfl⟩:=rx
  have e':k=(i != 0):=e
  subst e'
  exact PySem.P.truthy_int ⟨H,I,q⟩
 | str y =>
  obtain⟨t,rfl⟩:=rx
  obtain⟨hy,e'⟩:y.length<=sizeLine/\k=((y.length:Int) != 0):=e
  subst e'
  exact PySem.P.truthy_str (by omega) ⟨H,I.tok _,q⟩
 | kU y =>
  obtain⟨t,rfl⟩:=rx
  obtain⟨hy,e'⟩:y.size<=sizeLine/\k=((y.size:Int) != 0):=e
  subst e'
  exact PySem.W.truthy_bytes (by omega) ⟨H,I.tok _,q⟩
 | ref p =>
  cases rx
  have e':(∃xs,aN X.K H p xs/\k = !xs.isEmpty)\/(∃xs,ar X.K H p xs/\k = !xs.isEmpty)\/∃kvs,H p=some (.dK kvs)/\k = !kvs.isEmpty:=e
  rcases e' with ⟨xs,hx,e'⟩ | ⟨xs,hx,e'⟩ | ⟨kvs,hx,e'⟩
  ·subst e'
   obtain⟨its,r,pl,hz⟩:=I.list hx
   have hlen:=r.length
   exact wpAny_truthy_list pl.isList (by simp only [ID];omega) ⟨H,I.tok _,by rw [qy r];exact q⟩
  ·subst e'
   obtain⟨its,r,pl,hz⟩:=I.tuple hx
   have hlen:=r.length
   exact truthy_tuple pl (by simp only [ID];omega) ⟨H,I.tok _,by rw [qy r];exact q⟩
  ·subst e'
   obtain⟨hz,hS,vs,r,m⟩:kvs.length<=sizeLine/\(p == sysModules)=false/\∃vs,KV kvs vs/\s.heap.DictOf (aU X.prog X.w) p vs:=I.aW p _ hx
   have hlen:kvs.length=vs.length:=Paired.length r
   exact wpAny_truthy_dict hS m (by omega) ⟨H,I.tok _,by rw [yC r];exact q⟩
 | _=>exact (show False from e).elim
theorem Bn (ha:PE X a ta)(he:∀whole,isTrue a X.env whole=(do let v <-whole;standAt a.pos;holding [v] (truthy v))) :
  PT X a (fun Ic H Q=>ta Ic H fun x H'=>∃k,EW X.K x H' k/\Q k H'):=by
 intro pins s Ic H Q I h
 exact isTrue_plain (br (ha pins s Ic H _ I h) fun v s1 ⟨x,H1,I1,r1,q1⟩=>EX pins s1 Ic H1 x v Q I1 r1 q1) (he _)
theorem vals1 {x:V}{us:List Value}(r:Vals [x] us):∃u,us=[u]/\RelV x u:=by
 cases r with
 | cons r1 r2=>cases r2;exact⟨_,rfl,r1⟩
theorem vals2 {x y:V}{us:List Value}(r:Vals [x,y] us):∃u w',us=[u,w']/\RelV x u/\RelV y w':=by
 cases r with
 | cons r1 r2 =>
  cases r2 with
  | cons r3 r4=>cases r4;exact⟨_,_,rfl,r1,r3⟩
theorem zJ (hc:X.calm=true):eO X (.builtin "max") (fun xs H Q=>∃i j,xs=[.int i,.int j]/\Q (.int (if j > i then j else i)) H):=by
 intro pins s Ic H xs us Q I r h
 obtain⟨i,j,rfl,q⟩:=h
 obtain⟨u,w',rfl,⟨t,rfl⟩,⟨t',rfl⟩⟩:=vals2 r
 refine max_two_ints (I.ok.hd hc) fun h' tk k=>⟨_,H,I.kept k,?_,q⟩
 by_cases hj:j > i
 ·rw [if_pos hj,if_pos hj];exact⟨_,rfl⟩
 ·rw [if_neg hj,if_neg hj];exact⟨_,rfl⟩
theorem mX (hc:X.calm=true):eO X (.builtin "min") (fun xs H Q=>∃i j,xs=[.int i,.int j]/\Q (.int (if j<i then j else i)) H):=by
 intro pins s Ic H xs us Q I r h
 obtain⟨i,j,rfl,q⟩:=h
 obtain⟨u,w',rfl,⟨t,rfl⟩,⟨t',rfl⟩⟩:=vals2 r
 refine min_two_ints (I.ok.hd hc) fun h' tk k=>⟨_,H,I.kept k,?_,q⟩
 by_cases hj:j<i
 ·rw [if_pos hj,if_pos hj];exact⟨_,rfl⟩
 ·rw [if_neg hj,if_neg hj];exact⟨_,rfl⟩
theorem fX:eO X (.type "int") (fun xs H Q=>(∃i,xs=[.int i]/\Q (.int i) H)\/∃k,xs=[.bl k]/\Q (.int (if k then 1 else 0)) H):=by
 intro pins s Ic H xs us Q I r h
 rcases h with ⟨i,rfl,q⟩ | ⟨k,rfl,q⟩
 ·obtain⟨u,rfl,t,rfl⟩:=vals1 r
  exact call_int_int ⟨.int i,H,I,⟨_,rfl⟩,q⟩
 ·obtain⟨u,rfl,r1⟩:=vals1 r
  cases r1
  exact call_int_bool ⟨.int (if k then 1 else 0),H,I.tok _,⟨_,rfl⟩,q⟩
end
structure pH (h:Heap) (x dx C:Addr) (mA:Str->Option Value):Prop where
 obj:h.get? x=some (JD C dx)
 ns:h.Ns1 dx mA
 ne:dx≠x
theorem zK {h:Heap}{dx:Addr}{mA:Str->Option Value}(n:h.Ns1 dx mA):∃od,h.get? dx=some od/\∀name,Ke name od=some (mA name):=by
 obtain⟨o,es,ep,ho,hd,hk,_,hm⟩:=n
 refine⟨o,ho,fun name=>?_⟩
 have e:=hm name
 unfold nsFind findBy at e
 rw [<-Array.find?_toList] at e
 unfold Ke
 rw [hd]
 dsimp only
 split
 ·rename_i y q
  rw [q] at e
  exact congrArg some e
 ·rename_i q
  rw [q] at e
  have a:es.toList.any (·.refKey)=false:=by
   rw [List.any_eq_false]
   intro y hy
   obtain⟨z,t,hkey⟩:=hk y (Array.mem_toList_iff.mp hy)
   simp [DictEntry.refKey,hkey]
  have a':¬es.toList.any (·.refKey)=true:=by rw [a];exact IU
  rw [if_neg a']
  exact congrArg some e
theorem pH.look {h:Heap}{x dx C:Addr}{mA:Str->Option Value}(I:pH h x dx C mA):∃od,PySem.W.InstAt h x (JD C dx) C (some od)/\∀name,Ke name od=some (mA name) :=
 let ⟨od,ho,hl⟩:=zK I.ns
 ⟨od,⟨I.obj,rfl,rfl,ho⟩,hl⟩
section
variable {prog:Program}{w:World}{A:Around}{E:Value->Shared->Prop}{s:Shared}{K:Ih}{x dx C f:Addr}{mA:Str->Option Value}{name:Str}{v:Value}
theorem get_map {expr:Bool}{Q:Value->Shared->Prop}(X:K.In s.heap)(I:pH s.heap x dx C mA)(hg:JP K C name=true)(hh:JZ K C=true)
  (ha:IW K (.ref C) name=some none) (hv:mA name=some v) (hv':PySem.W.handedIn v=true) (h:Q v { s with toks:=s.toks+1 }) :
  wpAny (model prog w) A (getAttr (.ref x) name expr) Q E s:=by
 obtain⟨od,J,hl⟩:=I.look
 exact PySem.W.get_value X J (KI hg).1 (PySem.W.findObj_own hh ha rfl (by rw [hl,hv])) hv' h
theorem Bo {pl:Sem Bool}{Q:Value×List Value->Shared->Prop}(X:K.In s.heap)(I:pH s.heap x dx C mA)(hg:JP K C name=true)
  (hf:IW K (.ref C) name=some (some (.ref f))) (ht:J0 K (.ref f)=true) (hv:mA name=none) (h:Q (.ref f,[.ref x]) s) :
  wpAny (model prog w) A (getMethod (.ref x) name pl) Q E s:=by
 obtain⟨od,J,hl⟩:=I.look
 exact PySem.W.method_fn X J (KI hg).1 (KI hg).2 hf (beq_iff_eq.mp ht) (by show (Ke name od).map (·.isSome)=some false;rw [hl,hv];rfl) h
theorem DA {ns:List Str}{Q:Unit->Shared->Prop}(X:K.In s.heap)(I:pH s.heap x dx C mA)
  (hs:IW K (.ref C) "__setattr__" = some (some (.builtin "object.__setattr__"))) (hp:Kf K C=true) (ht:PySem.W.takerIn K C name=some none) (hh:JZ K C=true)
  (hw:PySem.Within mA ns) (hsz:ns.length<=sizeLine)
  (h:∀h',pH h' x dx C (fun y=>if y=name then some v else mA y)->IT dx s.heap h'->Q () { s with heap:=h',toks:=s.toks+2 }) :
  wpAny (model prog w) A (setAttr (.ref x) name v) Q E s:=by
 obtain⟨od,J,hl⟩:=I.look
 refine PySem.W.set_plain X J hs (PySem.W.osa_open (s:={ s with toks:=s.toks+1 }) (r:=none) X J hp ht fun b=>?_)
 obtain⟨cd,hc,hd'⟩:=PySem.W.any_some hh
 have hx:s.heap.get? x=some ⟨.ref C,some dx,.plain,#[]⟩:=I.obj
 refine KS (KU (KS (KS (wpAny_loadPart hx (KS (PySem.W.Looks.here (s:={ s with toks:=s.toks+1 }) (PySem.W.looks_clsIn X hc) ?_))))))
 rw [hd']
 refine KU (a:=some dx) (KS (KU (KS ?_)))
 refine wpAny_nsSet1 (s:={ s with toks:=s.toks+1 }) I.ns fun h' hn2 hs2=>?_
 obtain⟨oD,esD,epD,hoD,hdD,hcD⟩:=hn2.count (PySem.Within.cons name v hw)
 refine KS (wpAny_lookBehind hoD (by rw [hdD];exact pastItsLine_dict (Ir hcD (by rw [I0];omega))) ?_)
 exact KU (h _ ⟨(hs2.2 _ (Ne.symm I.ne)).trans I.obj,hn2,I.ne⟩ hs2)
theorem Bp {R:Result->Shared->Prop}{vs:List Value}{kw:List (Str×Value)}(X:K.In s.heap)(hm:J1 K C=true)
  (hi:IW K (.ref C) "__init__" = some (some (.ref f))) (hf:PySem.W.typeIn K (.ref f)=some (.type "function"))
  (h:codeAny (model prog w) (A.under (.builtin "type.__call__" ⟨.ref C::vs,kw⟩)) (.call (.ref f) ⟨.ref (s.heap.objs.size+1)::vs,kw⟩) (PySem.W.InitBack (s.heap.objs.size+1) R)
   { s with heap:=(s.heap.push Jx).push (JD C s.heap.objs.size) }) :
  codeAny (model prog w) A (.call (.ref C) ⟨vs,kw⟩) R s:=by
 obtain⟨hh,g,d,t,os⟩:=s
 exact PySem.W.make_core (PySem.W.makes_of X hm) (PySem.W.looks_findIn X hi) (fun self=>PySem.W.bind_fn X self hf) (.inl rfl) h
end
def cR (f:Str)(v:V):List (Str×V)->List (Str×V)
 | []=>[(f,v)]
 | (g,x)::r=>if g=f then (g,v)::r else (g,x)::cR f v r
theorem oX (f g:Str)(v:V):∀fs:List (Str×V),(cR f v fs).lookup g=if g=f then some v else fs.lookup g
 | []=>by
  show Jm g [(f,v)]=_
  by_cases h:g=f
  ·have hb:(g == f)=true:=beq_iff_eq.mpr h
   simp only [Jm,hb,if_pos h]
  ·have hb:(g == f)=false:=beq_eq_false_iff_ne.mpr h
   simp only [Jm,hb,if_neg h]
 | (k,x)::r=>by
  have ih:=oX f g v r
  rw [show cR f v ((k,x)::r)=(if k=f then (k,v)::r else (k,x)::cR f v r) from rfl]
  by_cases hk:k=f
  ·rw [if_pos hk]
   by_cases h:g=k
   ·have hb:(g == k)=true:=beq_iff_eq.mpr h
    simp only [Jm,hb,if_pos (h.trans hk)]
   ·have hb:(g == k)=false:=beq_eq_false_iff_ne.mpr h
    simp only [Jm,hb,if_neg (fun e:g=f=>h (e.trans hk.symm))]
  ·rw [if_neg hk]
   by_cases h:g=k
   ·have hb:(g == k)=true:=beq_iff_eq.mpr h
    simp only [Jm,hb,if_neg (fun e:g=f=>hk (h.symm.trans e))]
   ·have hb:(g == k)=false:=beq_eq_false_iff_ne.mpr h
    simp only [Jm,hb]
    exact ih
theorem mY (f:Str)(v:V):∀fs:List (Str×V),f∈(cR f v fs).map (·.1)/\∀g,g∈fs.map (·.1)->g∈(cR f v fs).map (·.1)
 | []=>⟨by simp [cR],fun g h=>by simp at h⟩
 | (k,x)::r=>by
  obtain⟨i1,i2⟩:=mY f v r
  rw [show cR f v ((k,x)::r)=(if k=f then (k,v)::r else (k,x)::cR f v r) from rfl]
  by_cases hk:k=f
  ·rw [if_pos hk]
   subst hk
   exact⟨by simp,fun g h=>by simpa using h⟩
  ·rw [if_neg hk]
   refine⟨?_,fun g h=>?_⟩
   ·rw [IK]
    exact Iz _ i1
   ·rw [IK] at h ⊢
    rcases Ii.mp h with e | e
    ·exact Ii.mpr (.inl e)
    ·exact Iz _ (i2 g e)
theorem oY (f:Str)(v:V):∀fs:List (Str×V),(cR f v fs).length<=fs.length+1
 | []=>by simp [cR]
 | (k,x)::r=>by
  have ih:=oY f v r
  rw [show cR f v ((k,x)::r)=(if k=f then (k,v)::r else (k,x)::cR f v r) from rfl]
  by_cases hk:k=f
  ·rw [if_pos hk,I0,I0];omega
  ·rw [if_neg hk,I0,I0];omega
theorem fg.some_of {v:V}{o:Option Value}(r:fg (some v) o):∃u,o=some u/\RelV v u:=by
 cases o with
 | none=>exact (show False from r).elim
 | some u=>exact⟨u,rfl,r⟩
theorem fg.none_of {o:Option Value}(r:fg none o):o=none:=by
 cases o with
 | none=>rfl
 | some u=>exact (show False from r).elim
theorem zL {v:V}{u:Value}(r:RelV v u):PySem.W.handedIn u=true:=by
 cases v with
 | aT=>cases (show u=Value.none from r);rfl
 | bl b=>cases (show u=Value.bool b from r);rfl
 | int i=>obtain⟨t,e⟩:=(show ∃t,u=Value.int i t from r);cases e;rfl
 | str x=>obtain⟨t,e⟩:=(show ∃t,u=Value.str x t from r);cases e;rfl
 | kU b=>obtain⟨t,e⟩:=(show ∃t,u=Value.bytes b t from r);cases e;rfl
 | zB b=>obtain⟨t,e⟩:=(show ∃t,u=Value.float b t from r);cases e;rfl
 | ref a=>cases (show u=Value.ref a from r);rfl
 | ty n=>cases (show u=Value.type n from r);rfl
section
variable {P:Program}{w:World}{H H':Hp}{h h':Heap}{a C dx:Addr}{fs fs':List (Str×V)}
theorem sf (aW:en P w H h)(e:H a=some (.ins C dx fs)):∃mA,pH h a dx C mA/\(∀f,fg (fs.lookup f) (mA f))/\PySem.Within mA (fs.map (·.1))/\fs.length<=1000/\H dx=some (.own a):=by
 obtain⟨d,z,ne,ob,mA,n,r,q⟩:=(show b6 P w H h a (.ins C dx fs) from aW a _ e)
 exact⟨mA,⟨ob,n,ne⟩,r,q,z,d⟩
end
structure jK (K:Ih) (C:Addr):Prop where
 pg:JP K C Str.empty=true
 hd:JZ K C=true
 po:Kf K C=true
 sa:IW K (.ref C) "__setattr__" = some (some (.builtin "object.__setattr__"))
theorem jK.get {K:Ih}{C:Addr}(c:jK K C)(f:Str):JP K C f=true:=c.pg
def eD (K:Ih)(C:Addr)(f:Str):Prop:=IW K (.ref C) f=some none
theorem eD.Gj {K:Ih}{C:Addr}{f:Str}(n:eD K C f):PySem.W.takerIn K C f=some none:=by
 unfold PySem.W.takerIn
 rw [show IW K (.ref C) f=some none from n]
 rfl
structure Meth (K:Ih) (C:Addr) (m:Str) (f:Addr):Prop where
 at_:IW K (.ref C) m=some (some (.ref f))
 fn:J0 K (.ref f)=true
 kp:Jn K (.ref f)=true
section
variable {X:Cx}{pins:List (Addr×Obj)}{Ic : St}{H:Hp}{s:Shared}{a C dx:Addr}{fs:List (Str×V)}{f:Str}{v:V}{A:Around}{E:Value->Shared->Prop}
theorem qC {b:Bool}{Q:Value->Shared->Prop}(I:Inv X pins Ic H s)(e:H a=some (.ins C dx fs))(c:jK X.K C)(n:eD X.K C f)(l:fs.lookup f=some v)
  (h:∀u s',Inv X pins Ic H s'->RelV v u->Q u s'):wpAny (model X.prog X.w) A (getAttr (.ref a) f b) Q E s:=by
 obtain⟨mA,O,r,_,_,_⟩:=sf I.aW e
 obtain⟨u,hu,ru⟩:=fg.some_of (v:=v) (o:=mA f) (by rw [<-l];exact r f)
 exact get_map I.i0 O (c.get f) c.hd n hu (zL ru) (h u _ (I.tok _) ru)
theorem qD {m:Str}{g:Addr}{pl:Sem Bool}{Q:Value×List Value->Shared->Prop}(I:Inv X pins Ic H s)(e:H a=some (.ins C dx fs))(c:jK X.K C)(k:Meth X.K C m g)(l:fs.lookup m=none)
  (h:Q (.ref g,[.ref a]) s):wpAny (model X.prog X.w) A (getMethod (.ref a) m pl) Q E s:=by
 obtain⟨mA,O,r,_,_,_⟩:=sf I.aW e
 have hn:mA m=none:=fg.none_of (by rw [<-l];exact r m)
 exact Bo I.i0 O (c.get m) k.at_ k.fn hn h
theorem lQ {y:V}{u:Value}{Q:Unit->Shared->Prop}(I:Inv X pins Ic H s)(e:H a=some (.ins C dx fs))(c:jK X.K C)(n:eD X.K C f)(hl:fs.length<1000)(ry:RelV y u)
  (h:∀s',Inv X pins Ic (upd H a (.ins C dx (cR f y fs))) s'->Q () s'):wpAny (model X.prog X.w) A (setAttr (.ref a) f u) Q E s:=by
 obtain⟨mA,O,r,wi,_,ho⟩:=sf I.aW e
 have hz:(fs.map (·.1)).length<=sizeLine:=by rw [Ig,sizeLine_eq];omega
 refine DA I.i0 O c.sa c.po n.Gj c.hd wi hz fun h' O' sb=>h _ ?_
 have hd:∃o,h'.get? dx=some o:=let ⟨o,_,_,e',_⟩:=O'.ns;⟨o,e'⟩
 refine I.write (x:=a) (e:=dx) (by rw [e];exact True.intro) (.inr ho) (fun b q hb z=>(sb.2 b hb).trans z) hd ?_
 refine⟨by rw [ao O.ne];exact ho,?_,O.ne,O'.obj,_,O'.ns,fun g=>?_,fun g hg=>?_⟩
 ·have:=oY f y fs;omega
 ·show fg ((cR f y fs).lookup g) (if g=f then some u else mA g)
  rw [oX]
  by_cases q:g=f
  ·rw [if_pos q,if_pos q];exact ry
  ·rw [if_neg q,if_neg q];exact r g
 ·by_cases q:g=f
  ·rw [q];exact (mY f y fs).1
  ·refine (mY f y fs).2 g (wi g fun z=>hg ?_)
   show (if g=f then some u else mA g)=none
   rw [if_neg q];exact z
theorem Inv.made (I:Inv X pins Ic H s):Inv X pins Ic (upd (upd H s.heap.objs.size (.own (s.heap.objs.size+1))) (s.heap.objs.size+1) (.ins C s.heap.objs.size []))
  { s with heap:=(s.heap.push Jx).push (JD C s.heap.objs.size) }:=by
 have e1:(s.heap.push Jx).get? s.heap.objs.size=some Jx:=Ip s.heap rfl
 have e2:((s.heap.push Jx).push (JD C s.heap.objs.size)).get? (s.heap.objs.size+1)=some (JD C s.heap.objs.size):=by
  have:=Ip (s.heap.push Jx) (o:=JD C s.heap.objs.size) rfl
  rwa [IL] at this
 have e3:(s.heap.push Jx).Ns s.heap.objs.size (fun _=>none):=⟨Jx,#[],_,e1,rfl,(fun e he=>absurd he (by simp)),fun _=>rfl⟩
 have I1:=I.laid (a:=s.heap.objs.size) (o:=.own (s.heap.objs.size+1)) (h':=s.heap.push Jx) (t':=s.toks) (fun b u q=>Im _ q) (Ij _) ⟨_,e1⟩
 refine I1.laid (a:=s.heap.objs.size+1) (o:=.ins C s.heap.objs.size []) (t':=s.toks) (fun b u q=>Im _ q) (Nat.le_of_eq (IL _ _)) ?_
 have ne:s.heap.objs.size≠s.heap.objs.size+1:=Iq (Jk _)
 refine⟨by rw [ao ne,aa],IF _,ne,e2,fun _=>none,(Heap.Ns1.of_empty e3).at fun o q=>Im _ q,fun _=>True.intro,fun y hy=>absurd rfl hy⟩
theorem DB {prog:Program}{w:World}{env:Env}{e:Expr}{f:Str}{pos:Pos}{s:Shared}{Q:Value->Shared->Prop}(hb:attributeBase e f env (eval e env)=eval e env)
  (h:wpAny (model prog w) A (eval e env) (fun o s₁=>wpAny (model prog w) A (getAttr o f true) Q E s₁) E s):wpAny (model prog w) A (eval (.Attribute e f pos) env) Q E s :=
 Attribute_any_ h (by rw [arm_eval_Attribute,hb])
end
inductive DC (K:Ih) (f:Str) (Q:VK) (x:V) (H1:Hp):Prop
 | mk (a C dx fs v:_) (_:x=.ref a) (_:H1 a=some (.ins C dx fs)) (_:jK K C) (_:eD K C f) (_:fs.lookup f=some v) (_:Q v H1)
def EY (K:Ih)(ta:TE)(f:Str):TE:=fun Ic H Q=>ta Ic H fun x H1=>DC K f Q x H1
inductive DD (K:Ih) (f:Str) (D:Ends) (Ic : St) (y:V) (x:V) (H2:Hp):Prop
 | mk (a C dx fs:_) (_:x=.ref a) (_:H2 a=some (.ins C dx fs)) (_:jK K C) (_:eD K C f) (_:fs.length<1000) (_:D.nx Ic (upd H2 a (.ins C dx (cR f y fs))))
def Ho (K:Ih)(ta tv:TE)(f:Str):TS:=fun D Ic H=>tv Ic H fun y H1=>ta Ic H1 fun x H2=>DD K f D Ic y x H2
def EZ (X:Cx)(op:Operator)(rd:V->V->Hp->VK->Prop):Prop :=
 ∀(pins:List (Addr×Obj)) (s:Shared) (Ic : St) (H:Hp) (x y:V) (u v:Value) (Q:VK),Inv X pins Ic H s->RelV x u->RelV y v->rd x y H Q->wpAny (model X.prog X.w) X.A (inplaceOp op u v) (EP X pins Ic Q) X.xe s
inductive yD (f:Str) (D:Ends) (Ic : St) (a:Addr) (C:Addr) (z:V) (H3:Hp):Prop
 | mk (dx' fs':_) (_:H3 a=some (.ins C dx' fs')) (_:fs'.length<1000) (_:D.nx Ic (upd H3 a (.ins C dx' (cR f z fs'))))
inductive yE (K:Ih) (tv:TE) (rd:V->V->Hp->VK->Prop) (f:Str) (D:Ends) (Ic : St) (x:V) (H1:Hp):Prop
 | mk (a C dx fs v:_) (_:x=.ref a) (_:H1 a=some (.ins C dx fs)) (_:jK K C) (_:eD K C f) (_:fs.lookup f=some v) (_:tv Ic H1 fun y H2=>rd v y H2 fun z H3=>yD f D Ic a C z H3)
def DE (K:Ih)(ta tv:TE)(rd:V->V->Hp->VK->Prop)(f:Str):TS:=fun D Ic H=>ta Ic H fun x H1=>yE K tv rd f D Ic x H1
section
variable {X:Cx}{o e value:Expr}{f:Str}{pos pos' tpos:Pos}{ta tv:TE}
theorem dB (he:PE X e ta)(hb:attributeBase e f X.env (eval e X.env)=eval e X.env):PE X (.Attribute e f pos) (EY X.K ta f):=by
 intro pins s Ic H Q I h
 refine DB hb (br (he pins s Ic H _ I h) fun u s1 ⟨x,H1,I1,rx,a,C,dx,fs,v,ex,ea,c,n,l,q⟩=>?_)
 subst ex
 obtain rfl:u=Value.ref a:=rx
 exact qC I1 ea c n l fun u' s2 I2 ru=>⟨v,H1,I2,ru,q⟩
theorem jL (ha:PE X o ta)(hv:PE X value tv)(hs:swapsWith value (some (.Attribute o f pos')) pos.line X.env=pure false):PS X (.Assign [.Attribute o f pos'] value pos) (Ho X.K ta tv f):=by
 intro pins s Ic H D I h
 refine plainObj_wpAny_Assign_Attribute (br (hv pins s Ic H _ I h) fun u s1 ⟨y,H1,I1,ry,q⟩=>br (ha pins s1 Ic H1 _ I1 q) fun ov s2 ⟨x,H2,I2,rx,a,C,dx,fs,ex,ea,c,n,l,q2⟩=>?_) hs
 subst ex
 obtain rfl:ov=Value.ref a:=rx
 exact lQ I2 ea c n l ry fun s3 I3=>⟨Ic,_,I3,q2⟩
theorem zM {op:Operator}{rd:V->V->Hp->VK->Prop}(ha:PE X o ta)(hv:PE X value tv)(hop:EZ X op rd):PS X (.AugAssign (.Attribute o f tpos) op value pos) (DE X.K ta tv rd f):=by
 intro pins s Ic H D I h
 refine wpAny_AugAssign_AttributeAny (br (ha pins s Ic H _ I h) fun ov s1 ⟨x,H1,I1,rx,a,C,dx,fs,v,ex,ea,c,n,l,q⟩=>?_)
 subst ex
 obtain rfl:ov=Value.ref a:=rx
 refine qC I1 ea c n l fun u s2 I2 ru=>br (hv pins s2 Ic H1 _ I2 q) fun w3 s3 ⟨y,H2,I3,ry,q3⟩=>br (hop pins s3 Ic H2 v y u w3 _ I3 ru ry q3) fun w4 s4 ⟨z,H3,I4,rz,dx',fs',ea',l',q4⟩=>?_
 exact lQ I4 ea' c n l' rz fun s5 I5=>⟨Ic,_,I5,q4⟩
inductive Hq  (x:V) (y:V) (H:Hp) (Q:VK):Prop
 | mk (i j:_) (_:x=.int i) (_:y=.int j) (_:Q (.int (i+j)) H)
theorem E1:EZ X .Add Hq:=by
 rintro pins s Ic H x y u v Q I rx ry ⟨i,j,rfl,rfl,q⟩
 obtain⟨t,rfl⟩:=(show ∃t,u=Value.int i t from rx)
 obtain⟨t',rfl⟩:=(show ∃t',v=Value.int j t' from ry)
 exact PyProof.Rows.iadd_int ⟨.int (i+j),H,I.tok _,⟨_,rfl⟩,q⟩
end
section
variable {X:Cx}{pins:List (Addr×Obj)}{Ic : St}{H:Hp}{s:Shared}{A:Around}{E:Value->Shared->Prop}{Q:Value->Shared->Prop}{c:Value}{b:Bool}
end
structure cZ (k:Nat) (A:Around):Prop where
 hd:A.handled=none
 dp:A.depth+3*k+5<recursionLimit
 un:A.units+16*k+200<cLine
theorem cZ.mono {j k:Nat}{A:Around}(r:cZ k A)(h:j<=k):cZ j A:=⟨r.hd,by have:=r.dp;omega,by have:=r.un;omega⟩
theorem cZ.deeper {k:Nat}{A:Around}(r:cZ (k+1) A)(env:Env):cZ k (A.deeper env) :=
 ⟨r.hd,by have:=r.dp;show A.depth+1+3*k+5<_;omega,by have:=r.un;show A.units+3+16*k+200<_;omega⟩
theorem yF {A:Around} {C:Addr} {us:List Value} {kw:List (Str×Value)}:(A.under (.builtin "type.__call__" ⟨.ref C::us,kw⟩)).depth=A.depth+1:=by
 first | rfl | simp [Around.under,Code.weight,Code.isCreation,Code.isGuard,Code.isCaller,Code.frames,Code.isFrame,guardIds]
theorem yG {A:Around} {C:Addr} {us:List Value} {kw:List (Str×Value)}:(A.under (.builtin "type.__call__" ⟨.ref C::us,kw⟩)).units=A.units+1:=by
 first | rfl | simp [Around.under,Code.cUnits,Code.frames,Code.isFrame]
theorem cZ.make {k:Nat} {A:Around} (r:cZ (k+1) A) (C:Addr) (us:List Value) (kw:List (Str×Value)):cZ k (A.under (.builtin "type.__call__" ⟨.ref C::us,kw⟩)) :=
 ⟨r.hd,by have:=r.dp;rw [yF];omega,by have:=r.un;rw [yG];omega⟩
theorem cZ.depth {k:Nat}{A:Around}(r:cZ k A):A.depth<recursionLimit:=by have:=r.dp;omega
theorem cZ.units {k:Nat}{A:Around}(r:cZ k A):A.units+64<cLine:=by have:=r.un;omega
def lR:TA:=fun _ H Q=>Q [] H
def gu (ta:TE)(tr:TA):TA:=fun Ic H Q=>ta Ic H fun x H1=>tr Ic H1 fun xs H2=>Q (x::xs) H2
section
variable {X:Cx}{e:Expr}{es:List Expr}{te:TE}{t:TA}{pos:Pos}
theorem cW:PA X [] lR:=fun _ _ _ _ H Q I h=>Calls.spliced_nil ⟨[],H,I,.nil,h⟩
theorem bC (ha:PE X e te)(hr:PA X es t)(hs:starEach (e::es) X.env=(false,eval e X.env)::starEach es X.env:=by rfl):PA X (e::es) (gu te t):=by
 intro pos pins s Ic H Q I h
 rw [hs]
 show wpAny _ _ (spliced ((false,eval e X.env)::backTo pos (starEach es X.env))) _ _ s
 refine Calls.spliced_cons (br (ha pins s Ic H _ I h) fun u s1 ⟨x,H1,I1,r1,q1⟩=>?_)
 exact br (hr pos pins s1 Ic H1 _ I1 q1) fun us s2 ⟨xs,H2,I2,r2,q2⟩=>⟨x::xs,H2,I2,.cons r1 r2,q2⟩
def E3 (t:TA):TE:=fun Ic H Q=>t Ic H fun xs H1=>xs.length<=sizeLine/\∀p,H1 p=none->Q (.ref p) (upd H1 p (.tup xs))
def Hr (t:TA):TE:=fun Ic H Q=>t Ic H fun xs H1=>xs.length<=sizeLine/\∀p,H1 p=none->Q (.ref p) (upd H1 p (.lst xs))
theorem aV {x1}(h:PA X es t):PE X (.Tuple es x1 pos) (E3 t):=by
 intro pins s Ic H Q I hq
 refine wpAny_Tuple_spliced (br (h pos pins s Ic H _ I hq) fun us s1 ⟨xs,H1,I1,r,z,q⟩=>⟨by rw [<-r.length];exact z,?_⟩)
 have hf:H1 s1.heap.objs.size=none:=I1.aW.fresh (Ij _)
 refine⟨.ref s1.heap.objs.size,upd H1 s1.heap.objs.size (.tup xs),I1.laid (t':=s1.toks) (fun b u e=>Im _ e) (Ij _) ?_,rfl,q _ hf⟩
 exact⟨z,us,r,⟨_,Ip _ rfl,rfl,_,rfl,rfl⟩⟩
theorem cP (h:PA X es t):PE X (.List es pos) (Hr t):=by
 intro pins s Ic H Q I hq
 refine wpAny_List_spliced (br (h pos pins s Ic H _ I hq) fun us s1 ⟨xs,H1,I1,r,z,q⟩=>⟨by rw [<-r.length];exact z,?_⟩)
 have hf:H1 s1.heap.objs.size=none:=I1.aW.fresh (Ij _)
 refine⟨.ref s1.heap.objs.size,upd H1 s1.heap.objs.size (.lst xs),I1.laid (t':=s1.toks) (fun b u e=>Im _ e) (Ij _) ?_,rfl,q _ hf⟩
 exact⟨z,us,0,r,Ip _ rfl⟩
end
abbrev Sp:=List V->Hp->VK->XK->Prop
abbrev mZ:=List Env->Hp->Shared->XK->Value->Shared->Prop
structure pI (P:Program) (w:World) (K:Ih) (mg:Str->Option Value) (base:Heap) (A:Around) (outer:List Env) (s:Shared) (H:Hp):Prop where
 frames:A.frames=some outer
 mod:Mod K mg base
 bs:∀b o,base.get? b=some o->s.heap.get? b=some o/\H b=none
 qt:base.objs.size<=s.heap.objs.size
 jf:s.heap.FunFrames base outer
 vf:∀b∈mT outer,H b=none
 aW:en P w H s.heap
 bare:AllBare s.gens
def CE (outer:List Env)(P:Program)(w:World)(H:Hp)(s:Shared)(Q:VK)(u:Value)(s':Shared):Prop :=
 ∃v H',s'.os=s.os/\AllBare s'.gens/\Un (mT outer) [] H H' s.heap s'.heap/\en P w H' s'.heap/\RelV v u/\Q v H'
def CR (CX:mZ)(outer:List Env)(P:Program)(w:World)(H:Hp)(s:Shared)(Q:VK)(E:XK)(r:Result)(s':Shared):Prop :=
 match r with
 | .ok (.ret u)=>CE outer P w H s Q u s'
 | .ok _=>False
 | .error e=>CX outer H s E e s'
structure bu (P:Program) (w:World) (K:Ih) (mg:Str->Option Value) (base:Heap) (CX:mZ) (k:Nat) (f:Addr) (fd:FuncData) (ps:List Str) (sp:Sp):Prop where
 len:∀vs H Q E,sp vs H Q E->vs.length=ps.length
 run:∀(A:Around) (outer:List Env) (s:Shared) (H:Hp) (args:Args) (us:List Value) (vs:List V) (Q:VK) (E:XK),cZ k A->pI P w K mg base A outer s H->BindsTo s fd args (ps.zip us)->Vals vs us->sp vs H Q E ->
  codeAny (model P w) A (.call (.ref f) args) (CR CX outer P w H s Q E) s
theorem pI.make {P:Program}{w:World}{K:Ih}{mg:Str->Option Value}{base:Heap}{A:Around}{outer:List Env}{s:Shared}{H:Hp}(e:pI P w K mg base A outer s H)(C:Addr)(us:List Value)(kw:List (Str×Value)) :
  pI P w K mg base (A.under (.builtin "type.__call__" ⟨.ref C::us,kw⟩)) outer s H:=⟨by first | exact e.frames | (simpa [Around.under,Code.envs,Code.isFrame,pushEnvs] using e.frames),e.mod,e.bs,e.qt,e.jf,e.vf,e.aW,e.bare⟩
section
variable {X:Cx}{pins:List (Addr×Obj)}{Ic : St}{H:Hp}{s s':Shared}
theorem Inv.E4 (I:Inv X pins Ic H s):pI X.prog X.w X.K X.mg X.base X.A X.stack s H :=
 ⟨I.ok.frames,I.ok.mod,I.bs,Ir I.ok.qt I.sz,I.stack,I.xo,I.aW,I.bare⟩
theorem Inv.after {Q:VK}{u:Value}(I:Inv X pins Ic H s)(h:CE X.stack X.prog X.w H s Q u s'):EP X pins Ic Q u s':=by
 obtain⟨v,H',os,bare,un,aW,r,q⟩:=h
 obtain⟨hh,g,d,t,os'⟩:=s'
 obtain rfl:os' = s.os:=os
 exact⟨v,H',I.call (h':=hh) (g':=g) (d':=d) (t':=t) (ch:=[]) un aW bare (fun b z=>absurd z (by simp)),r,q⟩
end
def yH (sp:Sp)(dvs:List V)(E:XK)(t:TA):TE:=fun Ic H Q=>t Ic H fun vs H1=>sp (vs++dvs) H1 Q E
inductive Bq (C:Addr) (m:Str) (sp:Sp) (dvs:List V) (E:XK) (t:TA) (Ic : St) (Q:VK) (x:V) (H1:Hp):Prop
 | mk (a dx fs:_) (_:x=.ref a) (_:H1 a=some (.ins C dx fs)) (_:fs.lookup m=none) (_:t Ic H1 fun vs H2=>sp (x::(vs++dvs)) H2 Q E)
def uZ (C:Addr)(m:Str)(sp:Sp)(dvs:List V)(E:XK)(ta:TE)(t:TA):TE:=fun Ic H Q=>ta Ic H fun x H1=>Bq C m sp dvs E t Ic Q x H1
def C1 (C:Addr)(sp:Sp)(dvs:List V)(E:XK)(t:TA):TE:=fun Ic H Q=>t Ic H fun vs H1=>∀x dx,H1 x=none->H1 dx=none->dx≠x ->
 sp (.ref x::(vs++dvs)) (upd (upd H1 dx (.own x)) x (.ins C dx [])) (fun v H2=>v=.aT/\Q (.ref x) H2) E
def Binds (K:Ih)(fd:FuncData)(ps:List Str)(ds:List Value):Prop :=
 ∀(s:Shared) (us:List Value),K.In s.heap->(us++ds).length=ps.length->BindsTo s fd ⟨us,[]⟩ (ps.zip (us++ds))
theorem Binds.all {K:Ih}{fd:FuncData}{ps:List Str}(h:∀us:List Value,us.length=ps.length->bindArgs fd ⟨us,[]⟩=pure (ps.zip us)):Binds K fd ps []:=fun s us _ hl=>by
 rw [JF] at hl ⊢
 exact .of_eq (h us hl)
def Passes (CX:mZ)(X:Cx)(E:XK):Prop:=∀(pins:List (Addr×Obj)) (Ic : St) (H:Hp) (s:Shared) (e:Value) (s':Shared),Inv X pins Ic H s->CX X.stack H s E e s'->X.xe e s'
section
variable {X:Cx}{CX:mZ}{k:Nat}{f C:Addr}{fd:FuncData}{ps:List Str}{sp:Sp}{dvs:List V}{ds:List Value}{E:XK}{x m:Str}{p pos apos:Pos}{e o:Expr}{es:List Expr}{ta:TE}{t:TA}
theorem vq {pins:List (Addr×Obj)}{Ic : St}{H:Hp}{s:Shared}{Q:VK}{us:List Value}{vs:List V}(F:bu X.prog X.w X.K X.mg X.base CX k f fd ps sp)(hr:cZ k X.A)(hb:Binds X.K fd ps ds)(hd:Vals dvs ds)(hx:Passes CX X E)
  (I:Inv X pins Ic H s) (r:Vals vs us) (h:sp (vs++dvs) H Q E):wpAny (model X.prog X.w) X.A (call (.ref f) us) (EP X pins Ic Q) X.xe s:=by
 have r2:Vals (vs++dvs) (us++ds):=r.append hd
 have hl:(us++ds).length=ps.length:=by rw [<-r2.length];exact F.len _ _ _ _ h
 refine wpAny_call (K6 (F.run X.A X.stack s H ⟨us,[]⟩ (us++ds) (vs++dvs) Q E hr I.E4 (hb s us I.i0 hl) r2 h) fun r s' hq=>?_)
 cases r with
 | error e=>exact hx pins Ic H s e s' I hq
 | ok fl =>
  cases fl with
  | ret u=>exact I.after hq
  | next=>exact False.elim hq
  | brk=>exact False.elim hq
  | cont=>exact False.elim hq
theorem DF (F:bu X.prog X.w X.K X.mg X.base CX k f fd ps sp)(hr:cZ k X.A)(hg:Gl X x)(hm:X.mg x=some (.ref f))(hk:Jn X.K (.ref f)=true)(hb:Binds X.K fd ps ds)(hd:Vals dvs ds)(hx:Passes CX X E)
  (ha:PA X (e::es) t) (hdb:(x == ("__debug__" : Str))=false:=by decide) (he:starEach (e::es) X.env=(false,eval e X.env)::starEach es X.env:=by rfl) (hpl:(backTo pos (starEach es X.env)).any (·.1)=false:=by rfl) :
  PE X (.Call (.Name x p) (e::es) [] pos) (yH sp dvs E t):=by
 intro pins s Ic H Q I h
 refine Lg (se I hg hm ?_ hdb)
 refine KJ (h₀:=X.base) I.ok.mod.kW hk (br (ha pos pins s Ic H _ I h) fun us s1 ⟨vs,H1,I1,r,q⟩=>⟨I1.i0,?_⟩) he hpl
 exact vq F hr hb hd hx I1 r q
theorem DG {pl:Sem Bool}(he:PE X o ta)(c:jK X.K C)(hm:Meth X.K C m f)(F:bu X.prog X.w X.K X.mg X.base CX k f fd ps sp)(hr:cZ k X.A)(hb:Binds X.K fd ps ds)(hd:Vals dvs ds)(hx:Passes CX X E)(ha:PA X (e::es) t)
  (hst:starEach (e::es) X.env=(false,eval e X.env)::starEach es X.env:=by rfl) (hpl:(backTo pos (starEach es X.env)).any (·.1)=false:=by rfl)
  (ht:eval (.Call (.Attribute o m apos) (e::es) [] pos) X.env=(do
   let ov <-eval o X.env
   standAt apos.atName
   let (f,first) <-holding [ov] (getMethod ov m pl)
   callWith pos f first (backTo pos (starEach (e::es) X.env)) (backToKw pos (keywordEach [] X.env))):=by rfl) :
  PE X (.Call (.Attribute o m apos) (e::es) [] pos) (uZ C m sp dvs E ta t):=by
 intro pins s Ic H Q I h
 refine PySem.W.methodCall_KW (pl:=pl) (br (he pins s Ic H _ I h) fun u s1 ⟨x,H1,I1,rx,a,dx,fs,ex,ea,l,q⟩=>?_) ht
 subst ex
 obtain rfl:u=Value.ref a:=rx
 refine qD I1 ea c hm l ?_
 refine KJ (first:=[.ref a]) (h₀:=X.base) I.ok.mod.kW hm.kp (br (ha pos pins s1 Ic H1 _ I1 q) fun us s2 ⟨vs,H2,I2,r,q2⟩=>⟨I2.i0,?_⟩) hst hpl
 exact vq (us:=.ref a::us) (vs:=.ref a::vs) F hr hb hd hx I2 (.cons rfl r) q2
theorem Br {pl:Sem Bool}(he:PE X o ta)(c:jK X.K C)(hm:Meth X.K C m f)(F:bu X.prog X.w X.K X.mg X.base CX k f fd ps sp)(hr:cZ k X.A)(hb:Binds X.K fd ps ds)(hd:Vals dvs ds)(hx:Passes CX X E)
  (ht:eval (.Call (.Attribute o m apos) [] [] pos) X.env=(do
   let ov <-eval o X.env
   standAt apos.atName
   let (f,first) <-holding [ov] (getMethod ov m pl)
   callWith pos f first (backTo pos (starEach [] X.env)) (backToKw pos (keywordEach [] X.env))):=by rfl) :
  PE X (.Call (.Attribute o m apos) [] [] pos) (uZ C m sp dvs E ta lR):=by
 intro pins s Ic H Q I h
 refine PySem.W.methodCall_KW (pl:=pl) (br (he pins s Ic H _ I h) fun u s1 ⟨x,H1,I1,rx,a,dx,fs,ex,ea,l,q⟩=>?_) ht
 subst ex
 obtain rfl:u=Value.ref a:=rx
 refine qD I1 ea c hm l ?_
 exact PySem.W.callWith_K0 (first:=[.ref a]) I1.i0 hm.kp (vq (us:=[.ref a]) (vs:=[.ref a]) F hr hb hd hx I1 (.cons rfl .nil) q)
structure Mk (K:Ih) (C f:Addr):Prop where
 makes:J1 K C=true
 init:IW K (.ref C) "__init__" = some (some (.ref f))
 fn:J0 K (.ref f)=true
 kp:Jn K (.ref C)=true
theorem Bs {pins:List (Addr×Obj)}{Ic : St}{H:Hp}{s:Shared}{Q:VK}{us:List Value}{vs:List V}(M:Mk X.K C f)(F:bu X.prog X.w X.K X.mg X.base CX k f fd ps sp)(hr:cZ (k+1) X.A)(hb:Binds X.K fd ps ds)(hd:Vals dvs ds)
  (hx:Passes CX X E) (I:Inv X pins Ic H s) (r:Vals vs us)
  (h:∀x dx,H x=none->H dx=none->dx≠x->sp (.ref x::(vs++dvs)) (upd (upd H dx (.own x)) x (.ins C dx [])) (fun v H2=>v=.aT/\Q (.ref x) H2) E) :
  wpAny (model X.prog X.w) X.A (call (.ref C) us) (EP X pins Ic Q) X.xe s:=by
 have hq:=h (s.heap.objs.size+1) s.heap.objs.size (I.aW.fresh (Jl _)) (I.aW.fresh (Ij _)) (Iq (Jk _))
 have I2:=Inv.made (C:=C) I
 have r2:Vals (V.ref (s.heap.objs.size+1)::(vs++dvs)) (Value.ref (s.heap.objs.size+1)::(us++ds)):=.cons rfl (r.append hd)
 have hl:(Value.ref (s.heap.objs.size+1)::us++ds).length=ps.length:=by
  have e:=r2.length
  rw [F.len _ _ _ _ hq] at e
  exact e.symm
 refine wpAny_call (Bp (f:=f) I.i0 M.makes M.init (beq_iff_eq.mp M.fn) (K6 (F.run _ X.stack _ _ ⟨Value.ref (s.heap.objs.size+1)::us,[]⟩ (Value.ref (s.heap.objs.size+1)::(us++ds)) _ _ E (hr.make C us [])
  (I2.E4.make C us []) (hb _ (Value.ref (s.heap.objs.size+1)::us) I2.i0 hl) r2 hq) fun r s' hq'=>?_))
 cases r with
 | error e=>exact hx pins Ic _ _ e s' I2 hq'
 | ok fl =>
  cases fl with
  | ret u =>
   obtain⟨v,H',I3,rv,ev,q3⟩:=I2.after hq'
   subst ev
   exact⟨rv,⟨V.ref (s.heap.objs.size+1),H',I3,rfl,q3⟩⟩
  | next=>exact False.elim hq'
  | brk=>exact False.elim hq'
  | cont=>exact False.elim hq'
theorem DH (M:Mk X.K C f)(F:bu X.prog X.w X.K X.mg X.base CX k f fd ps sp)(hr:cZ (k+1) X.A)(hg:Gl X x)(hm:X.mg x=some (.ref C))(hb:Binds X.K fd ps ds)(hd:Vals dvs ds)(hx:Passes CX X E)
  (ha:PA X (e::es) t) (hdb:(x == ("__debug__" : Str))=false:=by decide) (he:starEach (e::es) X.env=(false,eval e X.env)::starEach es X.env:=by rfl) (hpl:(backTo pos (starEach es X.env)).any (·.1)=false:=by rfl) :
  PE X (.Call (.Name x p) (e::es) [] pos) (C1 C sp dvs E t):=by
 intro pins s Ic H Q I h
 refine Lg (se I hg hm ?_ hdb)
 refine KJ (h₀:=X.base) I.ok.mod.kW M.kp (br (ha pos pins s Ic H _ I h) fun us s1 ⟨vs,H1,I1,r,q⟩=>⟨I1.i0,?_⟩) he hpl
 exact Bs M F hr hb hd hx I1 r q
end
section
variable {X:Cx}{CX:mZ}{k:Nat}{f C:Addr}{fd:FuncData}{ps ks:List Str}{sp:Sp}{E:XK}{x m:Str}{p pos apos kpos:Pos}{e o:Expr}{es:List Expr}{kws:List Keyword}{te ta:TE}{t tk:TA}{nm:Option Str}
variable {g:List Value->List Value->List Value}{gV:List V->List V->List V}
end
structure aO (N P:List Str) (sc:Scope):Prop where
 kind:sc.kind=.function
 co:sc.isCoroutine=false
 gen:sc.isGenerator=false
 nd:N.Nodup
 pre:N.take P.length=P
 par:∀x∈P,sc.names.lookup x=some .local\/sc.names.lookup x=some .cell
 E5:∀y∈sc.names,y.2≠.free
theorem tL {kindOf:Str->Option NameKind}{x:Str}:∀{binds:List (Str×Value)} {m:Str->Option Value},(∀v,(x,v)∉binds)->bindL kindOf binds m x=m x
 | [],_,_=>rfl
 | (n,v)::r,m,h=>by
  unfold bindL
  rw [tL fun w hw=>h w (Iz _ hw)]
  split
  ·have:x≠n:=by rintro rfl;exact h v Iy
   simp [this]
  ·rfl
theorem tM {kindOf:Str->Option NameKind}{x:Str}:∀{binds:List (Str×Value)} {m:Str->Option Value},(∀v,(x,v)∉binds)->bindC kindOf binds m x=m x
 | [],_,_=>rfl
 | (n,v)::r,m,h=>by
  unfold bindC
  rw [tM fun w hw=>h w (Iz _ hw)]
  split
  ·rfl
  ·have:x≠n:=by rintro rfl;exact h v Iy
   simp [this]
theorem tN {kindOf:Str->Option NameKind}{x:Str}{v:Value}:∀{P:List Str} {vs:List Value} {i:Nat} {m:Str->Option Value},P.Nodup->P[i]?=some x->vs[i]?=some v->kindOf x=some .local ->
  bindL kindOf (P.zip vs) m x=some v
 | [],_,_,_,_,h,_,_=>by simp at h
 | _::_,[],_,_,_,_,h,_=>by simp at h
 | p::P,w::vs,0,m,nd,h1,h2,hk=>by
  simp at h1 h2;subst h1;subst h2
  show bindL kindOf ((p,w)::P.zip vs) m p=_
  unfold bindL
  rw [tL fun v hv=>(Jy.mp nd).1 (Kg hv).1,if_pos hk]
  simp
 | p::P,w::vs,i+1,m,nd,h1,h2,hk=>by
  show bindL kindOf ((p,w)::P.zip vs) m x=_
  unfold bindL
  exact tN (i:=i) (Jy.mp nd).2 (by simpa using h1) (by simpa using h2) hk
theorem tO {kindOf:Str->Option NameKind}{x:Str}{v:Value}:∀{P:List Str} {vs:List Value} {i:Nat} {m:Str->Option Value},P.Nodup->P[i]?=some x->vs[i]?=some v->kindOf x≠some .local ->
  bindC kindOf (P.zip vs) m x=some v
 | [],_,_,_,_,h,_,_=>by simp at h
 | _::_,[],_,_,_,_,h,_=>by simp at h
 | p::P,w::vs,0,m,nd,h1,h2,hk=>by
  simp at h1 h2;subst h1;subst h2
  show bindC kindOf ((p,w)::P.zip vs) m p=_
  unfold bindC
  rw [tM fun v hv=>(Jy.mp nd).1 (Kg hv).1,if_neg hk]
  simp
 | p::P,w::vs,i+1,m,nd,h1,h2,hk=>by
  show bindC kindOf ((p,w)::P.zip vs) m x=_
  unfold bindC
  exact tO (i:=i) (Jy.mp nd).2 (by simpa using h1) (by simpa using h2) hk
def start (N:List Str)(vs:List V):St:=vs.map some++IX (N.length-vs.length) none
def pJ (CX:mZ)(P:Program)(w:World)(K:Ih)(mg:Str->Option Value)(base:Heap)(N:List Str)(qual:Str)(scope:Scope)(f:Addr)(cd:Value)(A:Around)(outer:List Env)(s:Shared)(H:Hp)(E:XK):Cx where
 prog:=P
 w:=w
 K:=K
 mg:=mg
 base:=base
 A:=A.deeper (envOfC qual scope s.heap.objs.size f cd)
 N:=N
 eh:=s
 lM:=H
 env:=envOfC qual scope s.heap.objs.size f cd
 outer:=outer
 stack:=envOfC qual scope s.heap.objs.size f cd::outer
 ex:=[]
 calm:=true
 fn:=fun _=>true
 pn:=[]
 xe:=fun e s'=>wpAny (model P w) (A.deeper (envOfC qual scope s.heap.objs.size f cd)) (leaving (envOfC qual scope s.heap.objs.size f cd) e) (fun _ s''=>CX outer H s E e s'') (fun e' s''=>CX outer H s E e' s'') s'
theorem vt {sc:Scope}{n:Nat}{x:Str}(h:sc.names.lookup x=some .cell):∃c,(cellsFrom n sc.names []).lookup x=some c:=by
 have q:=PySem.W.cellsFrom_some sc.names n [] (.inl h)
 exact Option.isSome_iff_exists.mp q
theorem zN {CX:mZ}{P:Program}{w:World}{K:Ih}{mg:Str->Option Value}{base:Heap}{N ps:List Str}{qual:Str}{scope:Scope}{f:Addr}{cd:Value}{A:Around}{outer:List Env}{s s1:Shared}{H:Hp}{E:XK}{us:List Value}{vs:List V}
  (S:aO N ps scope) (hd:A.handled=none) (e0:pI P w K mg base A outer s H) (hl:vs.length=ps.length) (r:Vals vs us)
  (x:InCallC s s.heap.objs.size (bindL (envOfC qual scope s.heap.objs.size f cd).kindOf (ps.zip us) fun _=>none) (cellsFrom (s.heap.objs.size+1) scope.names []) (bindC (envOfC qual scope s.heap.objs.size f cd).kindOf (ps.zip us) fun _=>none) s1) :
  Inv (pJ CX P w K mg base N qual scope f cd A outer s H E) [] (start N vs) H s1:=by
 have hpl:ps.length<=N.length:=by have:=congrArg Jo S.pre;rw [IH] at this;omega
 obtain⟨h1,tk,rfl,hk⟩:=x.done
 have noA:∀b:Addr,b∉(pJ CX P w K mg base N qual scope f cd A outer s H E).ex:=fun b z=>absurd (show b∈([]:List Addr) from z) (by simp)
 refine⟨⟨e0.mod,S.kind,rfl,rfl,Ij _,fun y z c h1 h2=>?_,fun y hy=>?_,fun y c _ h=>?_,fun _=>hd,Around.frames_deeper e0.frames,.inr ⟨rfl,rfl⟩,fun b z=>absurd z (noA b),e0.bs,e0.qt,fun b _ _=>noA b,fun b z=>absurd z (noA b),e0.jf,e0.vf⟩,
  rfl,e0.bare,Un.kept hk,⟨_,x.toInCall.ns,fun i y v h1 h2 h3=>?_⟩,fun y c h=>⟨_,x.cell y c h⟩,e0.aW.fresh (Ij _),fun y c h=>?_,fun p hp=>absurd (show p∈([]:List (Addr×Obj)) from hp) (by simp),e0.aW.kept hk,?_⟩
 ·exact name_of_addr x.apart (PySem.mem_of_lookup h1) (PySem.mem_of_lookup h2)
 ·have hy:scope.names.lookup y=some .cell\/scope.names.lookup y=some .free:=hy
  rcases hy with hy | hy
  ·exact vt hy
  ·exact absurd rfl (S.E5 _ (PySem.mem_of_lookup hy))
 ·exact IS (x.above y c (PySem.mem_of_lookup h))
 ·have hi:i<vs.length:=by
   unfold start at h2
   by_cases hi:i<vs.length
   ·exact hi
   ·rw [Kh (by simpa using hi)] at h2
    rw [List.getElem?_replicate] at h2
    split at h2 <;> cases h2
  have ha:vs[i]?=some v:=by
   unfold start at h2
   rw [JG (by simpa using hi),Iu] at h2
   cases e:vs[i]? with
   | none=>rw [e] at h2;cases h2
   | some a=>rw [e] at h2;cases h2;rfl
  obtain⟨u,hu,rv⟩:=r.get ha
  have hp:ps[i]?=some y:=by
   rw [<-S.pre,List.getElem?_take_of_lt (by omega)];exact h1
  have ndP:ps.Nodup:=by rw [<-S.pre];exact S.nd.sublist (List.take_sublist _ _)
  refine⟨u,rv,?_⟩
  rcases S.par y (IB hp) with k | k
  ·exact .inl ⟨k,tN ndP hp hu k⟩
  ·obtain⟨c,e⟩:=vt (n:=s.heap.objs.size+1) k
   refine .inr ⟨.inl k,c,e,?_⟩
   have q:=x.cell y c e
   rw [tO ndP hp hu (by show scope.names.lookup y≠_;rw [k];decide)] at q
   exact q
 ·exact e0.aW.fresh (IS (x.above y c (PySem.mem_of_lookup h)))
 ·unfold start
  show _=N.length
  rw [Io,Ig,Ki]
  omega
theorem C2 {CX:mZ}{P:Program}{w:World}{K:Ih}{mg:Str->Option Value}{base:Heap}{k:Nat}{f:Addr}{name qual:Str}{params:Arguments}{body:List Stmt}{scope:Scope}{dV kV doc pm cdv ct oc:Value}{an od:Option Addr}
  {osl:Array (Option Value)} {N ps:List Str} {sp:Sp} (lk:K.lookup f=some ⟨oc,od,.func (Je name qual params body scope dV kV doc pm an cdv ct),osl⟩) (hcd:JH K cdv qual=true) (S:aO N ps scope)
  (len:∀vs H Q E,sp vs H Q E->vs.length=ps.length)
  (hbody:∀(A:Around) (outer:List Env) (s:Shared) (H:Hp) (vs:List V) (Q:VK) (E:XK),cZ k (A.deeper (envOfC qual scope s.heap.objs.size f cdv))->sp vs H Q E ->
   ∃t,jE (pJ CX P w K mg base N qual scope f cdv A outer s H E) body t/\t { nx:=fun _ H'=>Q .aT H',rt:=Q } (start N vs) H) :
  bu P w K mg base CX (k+1) f (Je name qual params body scope dV kV doc pm an cdv ct) ps sp:=by
 refine⟨len,fun A outer s H args us vs Q E hr e0 hb r hsp=>?_⟩
 have hl:=len _ _ _ _ hsp
 have KX:K.In s.heap:=e0.mod.kW.keeps fun b o e=>(e0.bs b o e).1
 have lim:s.heap.NoLimit:=e0.mod.nolimit.keeps fun b o e=>(e0.bs b o e).1
 have hkind:∀y∈ps.zip us,scope.names.lookup y.1=some .local\/(scope.names.lookup y.1=some .cell/\((cellsFrom (s.heap.objs.size+1) scope.names []).lookup y.1).isSome=true):=fun ⟨n,v⟩ hy=>by
  rcases S.par n (Kg hy).1 with q | q
  ·exact .inl q
  ·exact .inr ⟨q,PySem.W.cellsFrom_some _ _ _ (.inl q)⟩
 refine codeAny_call_function hr.depth (KX _ _ lk) rfl S.co S.gen rfl (PySem.W.codeRec_of KX hcd) (hb _ _ _ _ ?_)
 refine wpAny_newFunctionEnv_cells S.kind hkind fun env he s1 x=>?_
 subst he
 refine⟨lim.keeps x.toInCall.keep,codeAny_func ?_⟩
 obtain⟨t,ht,hq⟩:=hbody A outer s H vs Q E (hr.deeper _) hsp
 have I:Inv (pJ CX P w K mg base N qual scope f cdv A outer s H E) [] (start N vs) H s1:=zN S hr.hd e0 hl r x
 refine KW (ht [] s1 (start N vs) H _ I hq) (fun fl s' hs=>?_) fun e s' hs=>hs
 have fin:∀{σ':St} {H':Hp} {v:V} {u:Value},Inv (pJ CX P w K mg base N qual scope f cdv A outer s H E) [] σ' H' s'->RelV v u->Q v H'->CE outer P w H s Q u s' :=
  fun {σ' H' v u} J rv q=>⟨v,H',J.os,J.bare,J.base,J.aW,rv,q⟩
 cases fl with
 | ret u =>
  obtain⟨v,σ',H',J,rv,q⟩:=hs
  exact fin J rv q
 | next =>
  obtain⟨σ',H',J,q⟩:=hs
  exact fin (v:=V.aT) (u:=Value.none) J rfl q
 | brk =>
  obtain⟨_,_,_,q⟩:=hs
  exact False.elim q
 | cont =>
  obtain⟨_,_,_,q⟩:=hs
  exact False.elim q
section
variable {X:Cx}{x:Str}{p pos:Pos}{e:Expr}{es:List Expr}{t:TA}{id T:String}{r:List V->Hp->VK->Prop}
def E6 (r:List V->Hp->VK->Prop)(t:TA):TE:=fun Ic H Q=>t Ic H fun vs H1=>r vs H1 Q
theorem bf (hc:eO X (.builtin id) r) (hg:Gl X x) (hm:X.mg x=none) (hv:bootBuiltins x=some (.builtin id)) (ha:PA X (e::es) t) (hn:x ≠ "__name__" := by decide) (hdb:(x == ("__debug__" : Str))=false:=by decide)
  (he:starEach (e::es) X.env=(false,eval e X.env)::starEach es X.env:=by rfl) (hpl:(backTo pos (starEach es X.env)).any (·.1)=false:=by rfl):PE X (.Call (.Name x p) (e::es) [] pos) (E6 r t):=by
 intro pins s Ic H Q I h
 refine Lg (jF I hg hm hv ?_ hn hdb)
 exact PyProof.Rows.callWith_builtin1 (br (ha pos pins s Ic H _ I h) fun us s1 ⟨vs,H1,I1,r1,q1⟩=>hc pins s1 Ic H1 vs us Q I1 r1 q1) he hpl
theorem bg (hc:eO X (.type T) r) (hg:Gl X x) (hm:X.mg x=none) (hv:bootBuiltins x=some (.type T)) (ha:PA X (e::es) t) (hn:x ≠ "__name__" := by decide) (hdb:(x == ("__debug__" : Str))=false:=by decide)
  (he:starEach (e::es) X.env=(false,eval e X.env)::starEach es X.env:=by rfl) (hpl:(backTo pos (starEach es X.env)).any (·.1)=false:=by rfl):PE X (.Call (.Name x p) (e::es) [] pos) (E6 r t):=by
 intro pins s Ic H Q I h
 refine Lg (jF I hg hm hv ?_ hn hdb)
 exact PyProof.Rows.callWith_type1 (br (ha pos pins s Ic H _ I h) fun us s1 ⟨vs,H1,I1,r1,q1⟩=>hc pins s1 Ic H1 vs us Q I1 r1 q1) he hpl
theorem yI (hc:eO X (.type T) r) (hg:Gl X x) (hm:X.mg x=none) (hv:bootBuiltins x=some (.type T)) (hn:x ≠ "__name__" := by decide) (hdb:(x == ("__debug__" : Str))=false:=by decide) :
  PE X (.Call (.Name x p) [] [] pos) (E6 r lR):=by
 intro pins s Ic H Q I h
 refine Lg (jF I hg hm hv ?_ hn hdb)
 exact PyProof.Rows.callWith_type0 (hc pins s Ic H [] [] Q I .nil h)
end
end L2
namespace HT
open PySem PyProof.Rows
section
open PySem.SeqAt
open PySem.AutoSeq1 (wpAny_loadPart')
open PySem.MeetsSeq PySem.MeetsSeq2 PySem.MeetsSeq3
end
section
variable {prog:Program}{w:World}{A:Around}{E:Value->Shared->Prop}{s:Shared}
theorem DI {t b:Addr}{vs ws:List Value}{Q:Value->Shared->Prop}(ht:IsTup s.heap t vs.toArray)(hb:IsTup s.heap b ws.toArray)(hv:vs≠[])
  (h1:ws=[]->Q (.ref t) s) (h2:ws≠[]->Q (.ref s.heap.objs.size) { s with heap:=s.heap.push { cls:=.type "tuple",data:=.seq (vs++ws).toArray } })
  (hsz:vs.length+ws.length<=sizeLine):wpAny (model prog w) A (binaryOp .Add (.ref t) (.ref b)) Q E s:=by
 obtain⟨⟨cls,dd,data,sl⟩,ho,hc,n,hd⟩:=id ht
 obtain⟨⟨cls2,dd2,data2,sl2⟩,ho2,hc2,n2,hd2⟩:=id hb
 simp only at hc hd hc2 hd2
 subst hc hd hc2 hd2
 have e:vs.toArray++ws.toArray=(vs++ws).toArray:=by simp
 by_cases hw:ws=[]
 ·exact concat_meets ⟨_,ho,rfl⟩ ⟨_,ho2,rfl⟩ noFill_tuple_add seq_tuple_add PySem.F.slot_tuple_add PySem.F.entry_tuple_add (PySem.F.args_tuple_add_2 _ _)
   (tuple_addW1 t b vs.toArray ws.toArray n n2 dd dd2 sl sl2 (by simpa using hv) (by simp [hw])) ⟨ho,ho2,h1 hw⟩
 ·refine concat_meets ⟨_,ho,rfl⟩ ⟨_,ho2,rfl⟩ noFill_tuple_add seq_tuple_add PySem.F.slot_tuple_add PySem.F.entry_tuple_add (PySem.F.args_tuple_add_2 _ _)
   (tuple_addW2 t b vs.toArray ws.toArray n n2 dd dd2 sl sl2 (by simpa using hv) (by simpa using hw) (by rw [ID,ID];exact hsz)) ⟨ho,ho2,?_⟩
  rw [e]
  exact h2 hw
def cf (n d:Nat):Option Int->Nat
 | none=>d
 | some v=>if v<0 then (v+(n:Int)).toNat else min v.toNat n
theorem pK (n d:Nat):cf n d none=d:=rfl
theorem iD (n d k:Nat):cf n d (some (k:Int))=min k n:=by
 show (if (k:Int)<0 then ((k:Int)+(n:Int)).toNat else min (k:Int).toNat n)=min k n
 rw [if_neg (by omega),JE]
theorem E7 (n d:Nat)(hd:d<=n)(o:Option Int):cf n d o<=n:=by
 cases o with
 | none=>exact hd
 | some v =>
  show (if v<0 then (v+(n:Int)).toNat else min v.toNat n)<=n
  by_cases hv:v<0
  ·rw [if_pos hv];omega
  ·rw [if_neg hv];exact Nat.min_le_right _ _
theorem xx (v:Int)(n d:Nat):(if v<0 then max (v+(n:Int)) 0 else min v (n:Int))=((cf n d (some v):Nat):Int):=by
 show (if v<0 then max (v+(n:Int)) 0 else min v (n:Int))=(((if v<0 then (v+(n:Int)).toNat else min v.toNat n):Nat):Int)
 by_cases hv:v<0
 ·simp only [if_pos hv];omega
 ·simp only [if_neg hv];omega
theorem yJ (lo hi:Option Int)(n:Nat):Builtin.Slice.sliceAdjust lo hi 1 (n:Int)=(((cf n 0 lo:Nat):Int),((cf n n hi:Nat):Int)):=by
 have h1:¬((1:Int)<0):=by omega
 unfold Builtin.Slice.sliceAdjust
 simp only [h1,if_false]
 refine Prod.ext ?_ ?_
 ·cases lo with
  | none=>rfl
  | some v=>exact xx v n 0
 ·cases hi with
  | none=>rfl
  | some v=>exact xx v n n
theorem yK (i j:Nat):Builtin.Slice.slicePlaces (i:Int) (j:Int) 1=j-i:=by
 unfold Builtin.Slice.slicePlaces
 have h1:(1:Int) > 0:=by omega
 simp only [h1,if_true,Int.ediv_one]
 split <;> omega
theorem qE {v:Value}{o:Option Int}{Q:Option Int->Shared->Prop}(p:IsPart v o)(h:Q o s):wpAny (model prog w) A (Builtin.Slice.slicePartIndex v) Q E s:=by
 cases p with
 | none=>exact slicePart_none h
 | int i t=>exact slicePart_int h
theorem jM {sl:Addr}{vl vu:Value}{lo hi:Option Int}{n:Nat}{Q:Int×Int×Nat->Shared->Prop}(hs:s.heap.IsSliceOf sl vl vu .none)(pl:IsPart vl lo)(pu:IsPart vu hi)
  (h:Q (((cf n 0 lo:Nat):Int),1,cf n n hi-cf n 0 lo) s):wpAny (model prog w) A (Builtin.Slice.sliceApplied (.ref sl) (pure (n:Int))) Q E s:=by
 obtain⟨os,hos,hcs,hds⟩:=id hs
 unfold Builtin.Slice.sliceApplied Builtin.Slice.sliceFields
 refine KS (KS (K1 hos hds (x:=vl) rfl (KS (K1 hos hds (x:=vu) rfl (KS (K1 hos hds (x:=.none) rfl (KU ?_)))))))
 refine KS (slicePart_none ?_)
 show wpAny _ _ (if ((1:Int) == 0)=true then _ else _) _ _ s
 rw [if_neg (by decide)]
 refine KS (qE pl (KS (qE pu (KS (KU ?_)))))
 show wpAny _ _ (match Builtin.Slice.sliceAdjust lo hi 1 (n:Int) with | (lo,hi)=>pure (lo,(1:Int),Builtin.Slice.slicePlaces lo hi 1)) _ _ s
 rw [yJ lo hi n]
 show wpAny _ _ (pure (((cf n 0 lo:Nat):Int),(1:Int),Builtin.Slice.slicePlaces ((cf n 0 lo:Nat):Int) ((cf n n hi:Nat):Int) 1)) _ _ s
 rw [yK]
 exact KU h
theorem Bt (xs:Array Value)(i k:Nat):((IZ k).filterMap fun (m:Nat)=>xs[((i:Int)+(m:Int)*1).toNat]?).toArray=((xs.toList.drop i).take k).toArray:=by
 have e:(fun (m:Nat)=>xs[((i:Int)+(m:Int)*1).toNat]?)=fun m=>xs[i+m]?:=by
  funext m
  have:((i:Int)+(m:Int)*1).toNat=i+m:=by omega
  rw [this]
 rw [e]
 have:=pick_run xs i k
 rw [Kj] at this
 have e2:((fun x=>xs[x]?) ∘ fun x=>i+x)=fun m=>xs[i+m]?:=rfl
 rw [e2] at this
 rw [this]
theorem oQ {t sl:Addr}{items:Array Value}{vl vu:Value}{lo hi:Option Int}{Q:Value->Shared->Prop}(ht:IsTup s.heap t items)(hs:s.heap.IsSliceOf sl vl vu .none)(pl:IsPart vl lo)(pu:IsPart vu hi)
  (hw:¬(cf items.size 0 lo=0/\cf items.size items.size hi=items.size))
  (h:Q (.ref s.heap.objs.size) { s with heap:=s.heap.push { cls:=.type "tuple",data:=.seq ((items.toList.drop (cf items.size 0 lo)).take (cf items.size items.size hi-cf items.size 0 lo)).toArray } })
  (hsz:items.size<=sizeLine):wpAny (model prog w) A (getItem (.ref t) (.ref sl)) Q E s:=by
 have htake:sizeOk (.seq ((items.toList.drop (cf items.size 0 lo)).take (cf items.size items.size hi-cf items.size 0 lo)).toArray):=by
  show ((items.toList.drop (cf items.size 0 lo)).take (cf items.size items.size hi-cf items.size 0 lo)).toArray.size<=sizeLine
  rw [ID,IH,JI,Jg]
  omega
 have hj:cf items.size items.size hi<=items.size:=E7 _ _ (Ij _) hi
 obtain⟨os,hos,hcs,hds⟩:=id hs
 have hTs:s.TypeIs (.ref sl) "slice" := ⟨os,hos,hcs⟩
 unfold getItem
 try with_reducible refine KY ?_
 first | refine KS (KU ?_) | skip
 refine KS (Lv ht.typeIs (by decide) ?_)
 refine KS (wpAny_callSpecial?_slot (name:=Str.ofString "__getitem__") ht.typeIs PyProof.Rows.slot_tuple_getitem
  (KZ PyProof.Rows.slot_tuple_getitem ht.typeIs entry_tuple_getitem ?_ (args_tuple_getitem _ _)))
 show wpAny _ _ (Builtin.Tuple.tupleItemsOf (.ref t) >>= _) _ _ s
 refine KS (tupleItemsOf_ ht ?_)
 refine KS (Lb hTs ?_)
 rw [if_pos (by decide)]
 refine KS (jM hs pl pu ?_)
 have hno:¬((((cf items.size 0 lo:Nat):Int) == 0&&(1:Int) == 1&&(cf items.size items.size hi-cf items.size 0 lo) == items.size)=true):=by
  intro q
  rw [Ja,Ja] at q
  have q1:((cf items.size 0 lo:Nat):Int)=0:=eq_of_beq q.1.1
  have q2:cf items.size items.size hi-cf items.size 0 lo=items.size:=eq_of_beq q.2
  exact hw ⟨by omega,by omega⟩
 show wpAny _ _ (if (((cf items.size 0 lo:Nat):Int) == 0&&(1:Int) == 1&&(cf items.size items.size hi-cf items.size 0 lo) == items.size)=true then _ else _) _ _ s
 rw [if_neg hno,Bt]
 first
  | exact KS (m:=Builtin.Tuple.tupleExact _) (K0 (KU ⟨_,rfl,KU h⟩) htake)
  | exact KS (m:=Builtin.Tuple.tupleExact _) (K0 (KS (KU (KU ⟨_,rfl,KU h⟩))) htake)
  | exact KS (KS (m:=Builtin.Tuple.tupleExact _) (K0 (KU (KU ⟨_,rfl,KU h⟩)) htake))
  | exact KS (KS (m:=Builtin.Tuple.tupleExact _) (K0 (KU ⟨_,rfl,KU h⟩) htake))
end
end HT
namespace L2
open PySem PySem.Spec PyProof.Rows
abbrev TO:=St->Hp->(Option Int->Hp->Prop)->Prop
def PO (X:Cx)(e:Option Expr)(t:TO):Prop :=
 ∀(pins:List (Addr×Obj)) (s:Shared) (Ic : St) (H:Hp) (Q:Option Int->Hp->Prop),Inv X pins Ic H s->t Ic H Q ->
  wpAny (model X.prog X.w) X.A (evalPart e X.env) (fun u s'=>∃o H',Inv X pins Ic H' s'/\IsPart u o/\Q o H') X.xe s
def DJ:TO:=fun _ H Q=>Q none H
inductive Bu (Q:(Option Int->Hp->Prop)) (x:V) (H1:Hp):Prop
 | mk (i:_) (_:x=.int i) (_:Q (some i) H1)
def Gk (t:TE):TO:=fun Ic H Q=>t Ic H fun x H1=>Bu Q x H1
section
variable {X:Cx}{e:Expr}{te:TE}{lo hi:Option Expr}{tl th:TO}{pos p2:Pos}
theorem fj:PO X none DJ:=by
 intro pins s Ic H Q I h
 rw [evalPart_none]
 exact KU ⟨none,H,I,.none,h⟩
theorem fk (h:PE X e te):PO X (some e) (Gk te):=by
 intro pins s Ic H Q I hw
 rw [evalPart_some]
 refine br (h pins s Ic H _ I hw) fun u s1 ⟨x,H1,I1,r1,q1⟩=>?_
 obtain⟨i,rfl,q⟩:=q1
 obtain⟨t,rfl⟩:=r1
 exact⟨some i,H1,I1,.int i t,q⟩
def C3 (X:Cx)(r:V->Option Int->Option Int->Hp->VK->Prop):Prop :=
 ∀(pins:List (Addr×Obj)) (s:Shared) (Ic : St) (H:Hp) (x:V) (v vl vu:Value) (lo hi:Option Int) (sl:Addr) (Q:VK),Inv X pins Ic H s->RelV x v->s.heap.IsSliceOf sl vl vu .none->IsPart vl lo->IsPart vu hi->r x lo hi H Q ->
  ∃T id,typeLookup (.type T) "__getitem__" = pure (some (.builtin id))/\s.TypeIs v T/\wpAny (model X.prog X.w) X.A (getItem v (.ref sl)) (EP X pins Ic Q) X.xe s
def HK (r:V->Option Int->Option Int->Hp->VK->Prop)(te:TE)(tl th:TO):TE:=fun Ic H Q=>te Ic H fun x H1=>tl Ic H1 fun l H2=>th Ic H2 fun u H3=>r x l u H3 Q
theorem eE {r:V->Option Int->Option Int->Hp->VK->Prop}(hr:C3 X r)(he:PE X e te)(hl:PO X lo tl)(hu:PO X hi th):PE X (.Subscript e (.Slice lo hi none p2) pos) (HK r te tl th):=by
 intro pins s Ic H Q I h
 refine Subscript_ (br (he pins s Ic H _ I h) fun v s1 ⟨x,H1,I1,r1,q1⟩=>?_)
 refine wpAny_Slice (br (hl pins s1 Ic H1 _ I1 q1) fun vl s2 ⟨l,H2,I2,pl,q2⟩=>br (hu pins s2 Ic H2 _ I2 q2) fun vu s3 ⟨u,H3,I3,pu,q3⟩=>?_)
 rw [evalPart_none]
 refine KU ?_
 have I4:Inv X pins Ic H3 { s3 with heap:=s3.heap.push { cls:=.type "slice",data:=.fields #[vl,vu,.none] } }:=I3.kept (t':=s3.toks) fun b ob q=>Im _ q
 obtain⟨T,id,hT,ht,hg⟩:=hr pins { s3 with heap:=s3.heap.push { cls:=.type "slice",data:=.fields #[vl,vu,.none] } } Ic H3 x v vl vu l u s3.heap.objs.size Q I4 r1 (Heap.IsSliceOf.new ..) pl pu q3
 show wpAny (model X.prog X.w) X.A (subscriptTail e (.Slice lo hi none p2) v (.ref s3.heap.objs.size)) (EP X pins Ic Q) X.xe { s3 with heap:=s3.heap.push { cls:=.type "slice",data:=.fields #[vl,vu,.none] } }
 exact tail_any (ops:=[.ref s3.heap.objs.size,v]) ht hT hg (by with_unfolding_all rfl)
def dC (xs:List V)(lo hi:Option Int):List V:=(xs.drop (HT.cf xs.length 0 lo)).take (HT.cf xs.length xs.length hi-HT.cf xs.length 0 lo)
theorem wU (xs:List V)(lo hi:Option Int):(dC xs lo hi).length<=xs.length:=by
 unfold dC
 rw [IH,JI]
 omega
inductive Hs (K:Ih) (x:V) (lo:Option Int) (hi:Option Int) (H:Hp) (Q:VK):Prop
 | mk (a xs:_) (_:x=.ref a) (_:ar K H a xs) (_:¬(HT.cf xs.length 0 lo=0/\HT.cf xs.length xs.length hi=xs.length)) (_:∀p,H p=none->Q (.ref p) (upd H p (.tup (dC xs lo hi))))
theorem E8:C3 X (Hs X.K):=by
 intro pins s Ic H x v vl vu lo hi sl Q I rx hs pl pu h
 obtain⟨a,xs,rfl,hx,hw,q⟩:=h
 cases rx
 obtain⟨its,r,ht,hz⟩:=I.tuple hx
 have hlen:its.toArray.size=xs.length:=by rw [ID];exact r.length.symm
 refine⟨"tuple",_,PyProof.Rows.slot_tuple_getitem.lookup,ht.typeIs,?_⟩
 refine HT.oQ ht hs pl pu (by rw [hlen];exact hw) ?_ (by rw [hlen];exact hz)
 rw [hlen]
 refine⟨.ref s.heap.objs.size,_,I.laid (t':=s.toks) (o:=.tup (dC xs lo hi)) (fun b ob q=>Im _ q) (Ij _) ?_,rfl,q _ (I.aW.fresh (Ij _))⟩
 exact⟨Ir (wU xs lo hi) hz,_,(r.drop (HT.cf xs.length 0 lo)).take (HT.cf xs.length xs.length hi-HT.cf xs.length 0 lo),⟨_,Ip _ rfl,rfl,_,rfl,rfl⟩⟩
theorem Vals.ow {xs:List V}{us:List Value}(r:Vals xs us):us=[]↔xs=[]:=by
 cases r with
 | nil=>simp
 | cons _ _=>simp
end
def m5 (n:Nat)(i:Int):Option Nat:=if 0<=i then (if i<n then some i.toNat else none) else if -(n:Int)<=i then some (i+n).toNat else none
def fQ {α : Type}(xs:List α)(i:Int):Option α:=(m5 xs.length i).bind fun j=>xs[j]?
theorem xy {n:Nat}{i:Int}{j:Nat}(h:m5 n i=some j):seqIndex? i n=some j/\j<n/\-(n:Int)<=i/\i<n:=by
 unfold m5 at h
 by_cases h0:0<=i
 ·rw [if_pos h0] at h
  by_cases h1:i<n
  ·rw [if_pos h1] at h
   have e:i.toNat=j:=IA.inj h
   exact⟨by rw [seqIndex_of h0 h1,e],by omega,by omega,h1⟩
  ·rw [if_neg h1] at h;cases h
 ·rw [if_neg h0] at h
  by_cases h1:-(n:Int)<=i
  ·rw [if_pos h1] at h
   have e:(i+n).toNat=j:=IA.inj h
   exact⟨by rw [seqIndex_neg (by omega) h1,e],by omega,h1,by omega⟩
  ·rw [if_neg h1] at h;cases h
theorem sg {α : Type}{xs:List α}{i:Int}{v:α}(h:fQ xs i=some v):∃j,seqIndex? i xs.length=some j/\xs[j]?=some v/\j<xs.length/\-(xs.length:Int)<=i/\i<xs.length:=by
 unfold fQ at h
 cases e:m5 xs.length i with
 | none=>rw [e] at h;cases h
 | some j =>
  rw [e] at h
  obtain⟨h1,h2,h3,h4⟩:=xy e
  exact⟨j,h1,h,h2,h3,h4⟩
theorem bV {α : Type}{xs:List α}{j:Nat}{v:α}(h:xs[j]?=some v):fQ xs (j:Int)=some v:=by
 have hj:j<xs.length:=(IE.mp h).1
 have e:m5 xs.length (j:Int)=some j:=by
  unfold m5
  rw [if_pos (by omega),if_pos (by omega)];simp
 unfold fQ;rw [e];exact h
def xA (b:Expr):Prop:=∀o i,subscripted b false o i=operate [o,i] (getItem o i)
def xB (X:Cx)(r:R2):Prop :=
 ∀(value slice:Expr) (pins:List (Addr×Obj)) (s:Shared) (Ic : St) (H:Hp) (x y:V) (v u:Value) (Q:VK),Inv X pins Ic H s->RelV x v->RelV y u->r x y H Q ->
  subscripted slice false v u=operate [v,u] (getItem v u)->wpAny (model X.prog X.w) X.A (subscriptTail value slice v u) (EP X pins Ic Q) X.xe s
def E9 (X:Cx)(id:String)(r:V->List V->Hp->VK->Prop):Prop :=
 ∀(pins:List (Addr×Obj)) (s:Shared) (Ic : St) (H:Hp) (x:V) (xs:List V) (v:Value) (us:List Value) (Q:VK),Inv X pins Ic H s->RelV x v->Vals xs us->r x xs H Q ->
  wpAny (model X.prog X.w) X.A (call (.builtin id) (v::us)) (EP X pins Ic Q) X.xe s
section
variable {X:Cx}{a b:Expr}{ta tb:TE}{pos:Pos}
theorem Gm {r:R2}(hr:xB X r)(ha:PE X a ta)(hb:PE X b tb)(hs:xA b):PE X (.Subscript a b pos) (zH r ta tb):=by
 intro pins s Ic H Q I h
 exact Subscript_ (Bi ha hb I h fun v u s2 x y H2 I2 rx ry q=>hr a b pins s2 Ic H2 x y v u Q I2 rx ry q (hs _ _))
inductive Ht (K:Ih) (x:V) (y:V) (H:Hp) (Q:VK):Prop
 | mk (p xs i v:_) (_:x=.ref p) (_:y=.int i) (_:aN K H p xs) (_:fQ xs i=some v) (_:Q v H)
inductive Fb (K:Ih) (x:V) (y:V) (H:Hp) (Q:VK):Prop
 | mk (p xs i v:_) (_:x=.ref p) (_:y=.int i) (_:ar K H p xs) (_:fQ xs i=some v) (_:Q v H)
inductive Hu  (x:V) (y:V) (H:Hp) (Q:VK):Prop
 | mk (z i c:_) (_:x=.str z) (_:y=.int i) (_:z.length<=sizeLine) (_:fQ z.cps.toList i=some c) (_:Q (.str ⟨#[c]⟩) H)
theorem cB:xB X (Ht X.K):=by
 intro value slice pins s Ic H x y v u Q I rx ry h hs
 obtain⟨p,xs,i,z,rfl,rfl,hq,he,q⟩:=h
 cases rx
 obtain⟨t,rfl⟩:=ry
 obtain⟨its,r,pl,hz⟩:=I.list hq
 obtain⟨j,h1,h2,h3,h4,h5⟩:=sg he
 obtain⟨w,ew,rw'⟩:=r.get h2
 have hl:=r.length
 have hn:=jJ
 have fin:EP X pins Ic Q w s:=⟨z,H,I,rw',q⟩
 by_cases h0:0<=i
 ·have hj:i.toNat=j:=by
   rw [seqIndex_of h0 h5] at h1
   exact IA.inj h1
  exact item_listR pl.isList h0 (by omega) (by rw [hj];simpa using ew) fin hs
 ·have hj:(i+(its.toArray.size:Int)).toNat=j:=by
   rw [seqIndex_neg (by omega) h4] at h1
   rw [ID,<-hl]
   exact IA.inj h1
  exact subscriptTail_builtinR (x:=w) pl.isList.typeIs slot_list_getitem.lookup
   (wpAny_getItem_list_neg (Q:=fun r s'=>r=w/\EP X pins Ic Q r s') pl.isList (by omega) (by rw [ID] <;> omega) (by omega) (by rw [hj];simpa using ew) ⟨rfl,fin⟩) hs
theorem aY:xB X (Fb X.K):=by
 intro value slice pins s Ic H x y v u Q I rx ry h hs
 obtain⟨p,xs,i,z,rfl,rfl,hq,he,q⟩:=h
 cases rx
 obtain⟨t,rfl⟩:=ry
 obtain⟨its,r,pl,hz⟩:=I.tuple hq
 obtain⟨j,h1,h2,h3,h4,h5⟩:=sg he
 obtain⟨w,ew,rw'⟩:=r.get h2
 have hl:=r.length
 have hn:=jJ
 have fin:EP X pins Ic Q w s:=⟨z,H,I,rw',q⟩
 exact subscriptTail_builtinR (x:=w) pl.typeIs slot_tuple_getitem.lookup
  (getItem_tuple (j:=j) (Q:=fun r s'=>r=w/\EP X pins Ic Q r s') pl (by omega) (by omega) (by rw [ID,<-hl];exact h1) (by simpa using ew) ⟨rfl,fin⟩) hs
theorem zO:xB X Hu:=by
  intro value slice pins s Ic H x y v u Q I rx ry h hs
  obtain⟨z,i,c,rfl,rfl,hz,he,q⟩:=h
  obtain⟨t,rfl⟩:=rx
  obtain⟨t',rfl⟩:=ry
  obtain⟨j,h1,h2,h3,h4,h5⟩:=sg he
  have hl:z.cps.toList.length=z.length:=by simp [Str.length]
  rw [hl] at h1 h4 h5
  have hn:=jJ
  exact tail_any (typeIs_str s z t) slot_str_getitem.lookup (getItem_str (c:=c) (by
    have e1:decide (i < -(2 ^ 63:Int))=false:=decide_eq_false (by omega)
    have e2:decide (i >= 2 ^ 63)=false:=decide_eq_false (by omega)
    rw [e1,e2,Bool.or_false]) (by rw [h1];simpa using h2) ⟨.str ⟨#[c]⟩,H,I.tok _,⟨_,rfl⟩,q⟩) hs
theorem yL (its:List Value)(n j:Nat)(u:Value):Obj.mapSeq (·.setIfInBounds j u) { cls:=.type "list",data:=.seq its.toArray n } = { cls:=.type "list",data:=.seq (its.set j u).toArray n }:=by
 simp [Obj.mapSeq]
theorem Inv.lst {pins:List (Addr×Obj)}{Ic : St}{H:Hp}{s:Shared}{p:Addr}{xs:List V}(I:Inv X pins Ic H s)(h:H p=some (.lst xs)) :
  ∃(its:List Value) (n:Nat),Vals xs its/\s.heap.get? p=some { cls:=.type "list",data:=.seq its.toArray n }/\xs.length<=sizeLine:=by
 obtain⟨z,its,n,r,e⟩:=I.aW p _ h
 exact⟨its,n,r,e,z⟩
theorem Inv.Fc {pins:List (Addr×Obj)}{Ic : St}{H:Hp}{s:Shared}{p:Addr}{xs ys:List V}{its its':List Value}{n n':Nat}{f:Obj->Obj}(I:Inv X pins Ic H s)(h:H p=some (.lst xs))
  (ho:s.heap.get? p=some { cls:=.type "list",data:=.seq its.toArray n }) (hf:f { cls:=.type "list",data:=.seq its.toArray n } = { cls:=.type "list",data:=.seq its'.toArray n' }) (r:Vals ys its') (hz:ys.length<=sizeLine) (t:Nat) :
  Inv X pins Ic (upd H p (.lst ys)) { s with heap:=s.heap.update p f,toks:=t }:=by
 have e:(s.heap.update p f).get? p=some { cls:=.type "list",data:=.seq its'.toArray n' }:=by
  rw [Jz f ho (by rw [hf] <;> rfl),hf]
 refine I.write (x:=p) (e:=p) (by rw [h];trivial) (.inl rfl) (fun b u hb q=>(Jt _ _ (Ne.symm hb)).trans q) ⟨_,e⟩ ?_
 exact⟨hz,its',n',r,e⟩
inductive Gn  (o:V) (i:V) (v:V) (H:Hp) (Q:(Hp->Prop)):Prop
 | mk (p xs k j:_) (_:o=.ref p) (_:i=.int k) (_:H p=some (.lst xs)) (_:m5 xs.length k=some j) (_:Q (upd H p (.lst (xs.set j v))))
theorem set_list:Bd X Gn:=by
 intro pins s Ic H o i v ov iv u Q I ro ri rv h
 obtain⟨p,xs,k,j,rfl,rfl,hp,hj,q⟩:=h
 cases ro
 obtain⟨t,rfl⟩:=ri
 obtain⟨its,n,r,ho,hz⟩:=I.lst hp
 obtain⟨h1,h2,h3,h4⟩:=xy hj
 have hl:=r.length
 have hn:=jJ
 have I':Inv X pins Ic (upd H p (.lst (xs.set j v))) { s with heap:=s.heap.update p (Obj.mapSeq (·.setIfInBounds j u)) } :=
  I.Fc hp ho (yL its n j u) (r.set rv j) (by rw [Jp];exact hz) s.toks
 by_cases h0:0<=k
 ·have hk:k.toNat=j:=by
   rw [seqIndex_of h0 h4] at h1
   exact IA.inj h1
  exact PySem.W.ki_setAt ho h0 (by omega) (by rw [ID,<-hl];exact h4) (by rw [hk];exact⟨_,I',q⟩)
 ·have hk:(k+(its.toArray.size:Int)).toNat=j:=by
   rw [seqIndex_neg (by omega) h3] at h1
   rw [ID,<-hl]
   exact IA.inj h1
  exact PySem.W.ki_setBack ho (by omega) (by rw [ID,<-hl];exact h3) (by omega) (by rw [hk];exact⟨_,I',q⟩)
def h9:V->Bool
 | .aT=>true
 | .bl _=>true
 | .int _=>true
 | .str _=>true
 | _=>false
def oZ:V->V->Bool
 | .aT,.aT=>true
 | .bl a,.bl b=>a == b
 | .bl a,.int b=>(if a then 1 else 0) == b
 | .int a,.bl b=>a == (if b then 1 else 0)
 | .int a,.int b=>a == b
 | .str a,.str b=>a == b
 | _,_=>false
theorem Fd {A:Around}{s:Shared}{y x:V}{u v:Value}(ry:RelV y u)(rx:RelV x v)(fy:h9 y=true)(fx:h9 x=true):SeqAt.EqAt A s u v (oZ y x):=by
 cases y with
 | aT =>
  cases ry
  cases x with
  | aT=>cases rx;exact SeqAt.EqAt.same _
  | bl b=>cases rx;exact SeqAt.EqAt.none_bool b
  | int b=>obtain⟨t,rfl⟩:=rx;exact SeqAt.EqAt.none_int b t
  | str b=>obtain⟨t,rfl⟩:=rx;exact SeqAt.EqAt.none_str b t
  | _=>exact absurd (show false=true from fx) IU
 | bl a =>
  cases ry
  cases x with
  | aT=>cases rx;exact SeqAt.EqAt.bool_none a
  | bl b=>cases rx;exact SeqAt.EqAt.bool_bool a b
  | int b=>obtain⟨t,rfl⟩:=rx;exact SeqAt.EqAt.bool_int a b t
  | str b=>obtain⟨t,rfl⟩:=rx;exact SeqAt.EqAt.bool_str a b t
  | _=>exact absurd (show false=true from fx) IU
 | int a =>
  obtain⟨t',rfl⟩:=ry
  cases x with
  | aT=>cases rx;exact SeqAt.EqAt.int_none a t'
  | bl b=>cases rx;exact SeqAt.EqAt.int_bool a t' b
  | int b=>obtain⟨t,rfl⟩:=rx;exact SeqAt.EqAt.int_int a t' b t
  | str b=>obtain⟨t,rfl⟩:=rx;exact SeqAt.EqAt.int_str a t' b t
  | _=>exact absurd (show false=true from fx) IU
 | str a =>
  obtain⟨t',rfl⟩:=ry
  cases x with
  | aT=>cases rx;exact SeqAt.EqAt.str_none a t'
  | bl b=>cases rx;exact SeqAt.EqAt.str_bool a t' b
  | int b=>obtain⟨t,rfl⟩:=rx;exact SeqAt.EqAt.str_int a t' b t
  | str b=>obtain⟨t,rfl⟩:=rx;exact SeqAt.EqAt.str_str a t' b t
  | _=>exact absurd (show false=true from fx) IU
 | _=>exact absurd (show false=true from fy) IU
def jN (x:V)(u:Value):Bool:=match u with
 | .none=>oZ .aT x
 | .bool b=>oZ (.bl b) x
 | .int i _=>oZ (.int i) x
 | .str z _=>oZ (.str z) x
 | _=>false
theorem zP {x y:V}{u:Value}(r:RelV y u)(f:h9 y=true):jN x u=oZ y x:=by
 cases y with
 | aT=>cases r;rfl
 | bl b=>cases r;rfl
 | int i=>obtain⟨t,rfl⟩:=r;rfl
 | str z=>obtain⟨t,rfl⟩:=r;rfl
 | _=>exact absurd (show false=true from f) IU
theorem kY {x:V}:∀{xs:List V} {us:List Value},Vals xs us->xs.all h9=true->us.any (jN x)=xs.any fun y=>oZ y x
 | _,_,.nil,_=>rfl
 | y::xs,u::us,.cons r t,f=>by
  rw [Kk,Ja] at f
  rw [JQ,JQ,zP r f.1,kY t f.2]
theorem jO {A:Around}{s:Shared}{x:V}{v:Value}(rx:RelV x v)(fx:h9 x=true):∀{xs:List V} {us:List Value},Vals xs us->xs.all h9=true->∀u∈us,SeqAt.EqAt A s u v (jN x u)
 | _,_,.nil,_=>fun u hu=>by cases hu
 | y::xs,u::us,.cons r t,f=>fun u' hu=>by
  rw [Kk,Ja] at f
  rcases Ii.mp hu with rfl | hu
  ·rw [zP r f.1];exact Fd r rx f.1 fx
  ·exact jO rx fx t f.2 u' hu
def i8 (x:V)(xs:List V):Bool:=xs.any fun y=>oZ y x
inductive GR (K:Ih) (neg:Bool) (x:V) (y:V) (H:Hp) (Q:VK):Prop
 | mk (p xs:_) (_:y=.ref p) (_:(aN K H p xs\/ar K H p xs)) (_:h9 x=true) (_:xs.all h9=true) (_:Q (.bl (if neg then !i8 x xs else i8 x xs)) H)
theorem m6:d5 X (compareOp .In) (GR X.K false):=by
 intro pins s Ic H x y v u Q I rx ry h
 obtain⟨p,xs,rfl,hq,fx,fs,q⟩:=h
 cases ry
 rcases hq with hq | hq
 ·obtain⟨its,r,pl,hz⟩:=I.list hq
  refine SeqAt.in_listAt (jN x) pl.isList (fun w hw=>jO rx fx r fs w (by simpa using hw)) ⟨.bl _,H,I,rfl,?_⟩
  rw [show its.toArray.any (jN x)=its.any (jN x) by simp,kY r fs]
  exact q
 ·obtain⟨its,r,pl,hz⟩:=I.tuple hq
  refine SeqAt.in_tupleAt (jN x) pl (fun w hw=>jO rx fx r fs w (by simpa using hw)) ⟨.bl _,H,I,rfl,?_⟩
  rw [show its.toArray.any (jN x)=its.any (jN x) by simp,kY r fs]
  exact q
theorem vv:d5 X (compareOp .NotIn) (GR X.K true):=by
 intro pins s Ic H x y v u Q I rx ry h
 obtain⟨p,xs,rfl,hq,fx,fs,q⟩:=h
 cases ry
 rcases hq with hq | hq
 ·obtain⟨its,r,pl,hz⟩:=I.list hq
  refine SeqAt.notIn_listAt (jN x) pl.isList (fun w hw=>jO rx fx r fs w (by simpa using hw)) ⟨.bl _,H,I,rfl,?_⟩
  rw [show its.toArray.any (jN x)=its.any (jN x) by simp,kY r fs]
  exact q
 ·obtain⟨its,r,pl,hz⟩:=I.tuple hq
  refine SeqAt.notIn_tupleAt (jN x) pl (fun w hw=>jO rx fx r fs w (by simpa using hw)) ⟨.bl _,H,I,rfl,?_⟩
  rw [show its.toArray.any (jN x)=its.any (jN x) by simp,kY r fs]
  exact q
theorem aZ:eO X (.builtin "len") (fun xs H Q=>∃p ys,xs=[.ref p]/\(aN X.K H p ys\/ar X.K H p ys)/\Q (.int ys.length) H):=by
 intro pins s Ic H xs us Q I r h
 obtain⟨p,ys,rfl,hq,q⟩:=h
 obtain⟨u,rfl,rx⟩:=vals1 r
 cases rx
 have hn:=jJ
 rcases hq with hq | hq
 ·obtain⟨its,r',pl,hz⟩:=I.list hq
  have hlen:=r'.length
  exact Calls.call_len_list pl.isList (by simp only [ID] <;> omega) ⟨.int ys.length,H,I.tok _,⟨s.toks+1,by rw [ID,hlen]⟩,q⟩
 ·obtain⟨its,r',pl,hz⟩:=I.tuple hq
  have hlen:=r'.length
  exact len_tuple pl (by simp only [ID] <;> omega) ⟨.int ys.length,H,I.tok _,⟨s.toks+1,by rw [ID,hlen]⟩,q⟩
theorem jP:eO X (.type "list") (fun xs H Q=>∃p ys,xs=[.ref p]/\(aN X.K H p ys\/ar X.K H p ys)/\∀l,H l=none->Q (.ref l) (upd H l (.lst ys))):=by
 intro pins s Ic H xs us Q I r h
 obtain⟨p,ys,rfl,hq,q⟩:=h
 obtain⟨u,rfl,rx⟩:=vals1 r
 cases rx
 have fin:∀(its:List Value),Vals ys its->ys.length<=sizeLine->∀(h':Heap) (c':Nat),(∀b o',s.heap.get? b=some o'->h'.get? b=some o') ->
   h'.get? s.heap.objs.size=some { cls:=.type "list",dict:=none,data:=.seq its.toArray c',slots:=#[] }->EP X pins Ic Q (.ref s.heap.objs.size) { s with heap:=h' }:=fun its r' hz h' c' kp e =>
  ⟨.ref s.heap.objs.size,_,I.laid (t':=s.toks) kp (Ij _) (show b6 X.prog X.w _ h' _ (.lst ys) from ⟨hz,its,c',r',e⟩),rfl,q _ (I.aW.fresh (Ij _))⟩
 rcases hq with hq | hq
 ·obtain⟨its,r',pl,hz⟩:=I.list hq
  have hlen:=r'.length
  obtain⟨o,ho,hc,n,hd⟩:=pl.isList
  exact call_list_seq p (.inl rfl) ho hc hd (fun h' c' kp e=>fin its r' hz h' c' kp e) (by simp only [ID] <;> omega)
 ·obtain⟨its,r',pl,hz⟩:=I.tuple hq
  have hlen:=r'.length
  obtain⟨o,ho,hc,n,hd⟩:=pl
  exact call_list_seq p (.inr rfl) ho hc hd (fun h' c' kp e=>fin its r' hz h' c' kp e) (by simp only [ID] <;> omega)
theorem bE:eO X (.type "tuple") (fun xs H Q=>∃p ys,xs=[.ref p]/\((aN X.K H p ys/\∀l,H l=none->Q (.ref l) (upd H l (.tup ys)))\/(ar X.K H p ys/\Q (.ref p) H))):=by
 intro pins s Ic H xs us Q I r h
 obtain⟨p,ys,rfl,h⟩:=h
 obtain⟨u,rfl,rx⟩:=vals1 r
 cases rx
 rcases h with ⟨hq,q⟩ | ⟨hq,q⟩
 ·obtain⟨its,r',pl,hz⟩:=I.list hq
  have hlen:=r'.length
  refine call_tuple_list pl.isList (fun h' kp=>?_) (by simp only [ID] <;> omega)
  have I1:Inv X pins Ic H { s with heap:=h' }:=I.kept (t':=s.toks) kp
  have I2:Inv X pins Ic (upd H h'.objs.size (.tup ys)) { s with heap:=h'.push { cls:=.type "tuple",data:=.seq its.toArray } } :=
   I1.laid (t':=s.toks) (fun b o e=>Im _ e) (Ij _) (show b6 X.prog X.w _ _ _ (.tup ys) from ⟨hz,its,r',⟨_,Ip _ rfl,rfl,_,rfl,rfl⟩⟩)
  exact⟨.ref h'.objs.size,_,I2,rfl,q _ (I1.aW.fresh (Ij _))⟩
 ·obtain⟨its,r',pl,hz⟩:=I.tuple hq
  exact call_tuple_same pl ⟨.ref p,H,I,rfl,q⟩
def Fe (K:Ih)(T:String)(x:V)(H:Hp):Prop:=match x with
 | .str _=>T = "str"
 | .int _=>T = "int"
 | .ref p=>(T = "list" /\ ∃xs,aN K H p xs)\/(T = "tuple" /\ ∃o,K.lookup p=some o/\o.cls=.type "tuple" /\ o.dict=none) \/
   (T = "dict" /\ ((∃kvs,H p=some (.dK kvs))\/∃kvs,H p=some (.dT kvs)))\/(T = "set" /\ ∃S n,H p=some (.set S n))
 | _=>False
theorem zQ {pins:List (Addr×Obj)}{Ic : St}{H:Hp}{s:Shared}{T:String}{x:V}{v:Value}(I:Inv X pins Ic H s)(r:RelV x v)(ty:Fe X.K T x H) :
  s.TypeIs v T/\∀a,v=.ref a->∃ob,s.heap.get? a=some ob/\ob.dict=none:=by
 cases x with
 | str z =>
  obtain⟨t,rfl⟩:=r
  cases (show T = "str" from ty)
  exact⟨typeIs_str s z t,fun _ e=>nomatch e⟩
 | int i =>
  obtain⟨t,rfl⟩:=r
  cases (show T = "int" from ty)
  exact⟨typeIs_int s i t,fun _ e=>nomatch e⟩
 | ref p =>
  cases r
  rcases ty with ⟨rfl,xs,hq⟩ | ⟨rfl,o,hk,hc,hd⟩ | ⟨rfl,hk⟩ | ⟨rfl,S,n,hk⟩
  ·obtain⟨its,_,pl,_⟩:=I.list hq
   refine⟨pl.isList.typeIs,fun a e=>?_⟩
   cases e
   obtain⟨o,n,e,c,hd,_⟩:=pl
   exact⟨o,e,hd⟩
  ·refine⟨⟨o,I.i0 p o hk,hc⟩,fun a e=>?_⟩
   cases e
   exact⟨o,I.i0 _ o hk,hd⟩
  ·have z:∃o,s.heap.get? p=some o/\o.ExactDict:=by
    rcases hk with ⟨kvs,hk⟩ | ⟨kvs,hk⟩
    ·obtain⟨_,_,_,_,o,_,_,e,ex,_⟩:=I.aW p _ hk
     exact⟨o,e,ex⟩
    ·obtain⟨_,_,_,_,o,_,_,e,ex,_⟩:=I.aW p _ hk
     exact⟨o,e,ex⟩
   obtain⟨o,e,ex⟩:=z
   refine⟨⟨o,e,ex.1⟩,fun a e2=>?_⟩
   cases e2
   exact⟨o,e,ex.2.1⟩
  ·obtain⟨o,_,_,_,e,ex,_⟩:=I.aW p _ hk
   refine⟨⟨o,e,ex.1⟩,fun a e2=>?_⟩
   cases e2
   exact⟨o,e,ex.2.1⟩
 | _=>exact False.elim ty
def Hv (K:Ih)(T:String)(r:V->List V->Hp->VK->Prop)(to:TE):TE:=fun Ic H Q=>to Ic H fun x H1=>Fe K T x H1/\r x [] H1 Q
def HL (K:Ih)(T:String)(r:V->List V->Hp->VK->Prop)(to:TE)(t:TA):TE:=fun Ic H Q=>to Ic H fun x H1=>Fe K T x H1/\t Ic H1 fun xs H2=>r x xs H2 Q
variable {o e:Expr}{es:List Expr}{to:TE}{t:TA}{name:Str}{apos cpos:Pos}{T id:String}{r:V->List V->Hp->VK->Prop}
theorem Ff (pa:PlainAttrs T) (slot:Slot T name id) (hty:typeOf (.builtin id)=pure (.type "method_descriptor")) (hm:E9 X id r) (ho:PE X o to)
  (hbase:attributeBase o name X.env (eval o X.env)=eval o X.env:=by rfl) (hline:(apos.endLine == cpos.line)=true:=by rfl):PE X (.Call (.Attribute o name apos) [] [] cpos) (Hv X.K T r to):=by
 intro pins s Ic H Q I h
 refine wpAny_Call_method0_late hbase hline (br (ho pins s Ic H _ I h) fun v s1 ⟨x,H1,I1,r1,ty,q1⟩=>?_)
 obtain⟨h1,h2⟩:=zQ I1 r1 ty
 exact⟨T,id,pa,slot,hty,h1,h2,Calls.callWith_builtin rfl (PySem.evalArgs_none (hm pins s1 Ic H1 x [] v [] Q I1 r1 .nil q1))⟩
theorem ia (pa:PlainAttrs T) (slot:Slot T name id) (hty:typeOf (.builtin id)=pure (.type "method_descriptor")) (hm:E9 X id r) (ho:PE X o to) (ha:PA X (e::es) t)
  (hbase:attributeBase o name X.env (eval o X.env)=eval o X.env:=by rfl)
  (hfew:((backTo cpos (starEach (e::es) X.env)).all (fun x=>!x.1)&&(backToKw cpos (keywordEach [] X.env)).all (fun x=>x.1.isSome)
   && decide ((e::es).length+([]:List Keyword).length+(if ([]:List Keyword).isEmpty then 0 else 1)<30))=true:=by rfl)
  (hline:(apos.endLine == cpos.line)=true:=by rfl) (hs:starEach (e::es) X.env=(false,eval e X.env)::starEach es X.env:=by rfl) (hplain:(backTo cpos (starEach es X.env)).any (·.1)=false:=by rfl) :
  PE X (.Call (.Attribute o name apos) (e::es) [] cpos) (HL X.K T r to t):=by
 intro pins s Ic H Q I h
 refine wpAny_Call_method_late hbase hfew hline rfl (br (ho pins s Ic H _ I h) fun v s1 ⟨x,H1,I1,r1,ty,q1⟩=>?_)
 obtain⟨h1,h2⟩:=zQ I1 r1 ty
 refine⟨T,id,pa,slot,hty,h1,h2,?_⟩
 have hA:=ha cpos pins s1 Ic H1 _ I1 q1
 rw [hs] at hA ⊢
 refine Calls.callWith_builtin (by show (false||(backTo cpos (starEach es X.env)).any (·.1))=false;rw [hplain] <;> rfl) (Calls.evalArgs_plain ?_)
 exact br hA fun us s2 ⟨vs,H2,I2,r2,q2⟩=>hm pins s2 Ic H2 x vs v us Q I2 r1 r2 q2
end
def zR (X:Cx)(id:String)(r:V->List V->Hp->VK->Prop):Prop :=
 ∀(pins:List (Addr×Obj)) (s:Shared) (Ic : St) (H:Hp) (x:V) (xs:List V) (v:Value) (us:List Value) (Q:VK),Inv X pins Ic H s->RelV x v->Vals xs us->r x xs H Q ->
  wpAny (model X.prog X.w) X.A (call (.builtin id) (v::us)) (EP X pins Ic Q) X.xe s
theorem Vals.one:∀{x:V} {us:List Value},Vals [x] us->∃u,us=[u]/\RelV x u
 | _,_,.cons r .nil=>⟨_,rfl,r⟩
theorem Vals.zero:∀{us:List Value},Vals [] us->us=[]
 | _,.nil=>rfl
theorem Vals.dropLast {xs:List V}{us:List Value}(h:Vals xs us):Vals xs.dropLast us.dropLast:=by
 induction h with
 | nil=>exact .nil
 | cons r t ih =>
  cases t with
  | nil=>exact .nil
  | cons q t'=>exact .cons r ih
theorem Vals.rep {xs:List V}{us:List Value}(h:Vals xs us):∀k:Nat,Vals (IX k xs).flatten (IX k us).flatten
 | 0=>.nil
 | k+1=>by
  rw [J2,J2,Kl,Kl]
  exact Vals.append h (Vals.rep h k)
theorem yM {α : Type}(l:List α):l.eraseIdx (l.length-1)=l.dropLast:=by
 induction l with
 | nil=>rfl
 | cons a r ih =>
  cases r with
  | nil=>rfl
  | cons b r =>
   have e:(a::b::r).length-1=((b::r).length-1)+1:=by
    have h1:(a::b::r).length=r.length+2:=rfl
    have h2:(b::r).length=r.length+1:=rfl
    omega
   rw [e,List.eraseIdx_cons_succ,ih]
   all_goals rfl
theorem foldl_rep (its:List Value):∀(k:Nat) (acc:List Value),
  List.foldl (fun x1 x2=>x1++x2) acc.toArray (IX k its.toArray)=(acc++(IX k its).flatten).toArray
 | 0,acc=>by simp
 | k+1,acc=>by
  have e:acc.toArray++its.toArray=(acc++its).toArray:=by simp
  have e2:(acc++its)++(IX k its).flatten=acc++(IX (k+1) its).flatten:=by
   rw [J2,Kl,Jc]
  rw [<-e2,<-foldl_rep its k (acc++its),<-e,J2,JJ]
section
variable {X:Cx}{pins:List (Addr×Obj)}{Ic : St}{H:Hp}{s:Shared}{l b:Addr}{xs ys zs:List V}
theorem Inv.Bv {its its':List Value}{n:Nat}{f:Array Value->Array Value}{t':Nat}(I:Inv X pins Ic H s)(hH:H l=some (.lst xs))
  (e:s.heap.get? l=some { cls:=.type "list",data:=.seq its.toArray n }) (hf:f its.toArray=its'.toArray) (hv:Vals ys its') (hz:ys.length<=sizeLine) :
  Inv X pins Ic (upd H l (.lst ys)) { s with heap:=s.heap.update l (Obj.mapSeq f),toks:=t' }:=by
 have q:=PySem.IsL.update e f
 rw [hf] at q
 refine I.write (x:=l) (e:=l) (by rw [hH];exact trivial) (.inl rfl) (fun b' u hb hu=>(Jt s.heap (Obj.mapSeq f) (Ne.symm hb)).trans hu) ⟨_,q⟩ ?_
 exact⟨hz,its',_,hv,q⟩
theorem Inv.Hw {its:List Value}{t':Nat}(I:Inv X pins Ic H s)(hv:Vals ys its)(hz:ys.length<=sizeLine) :
  Inv X pins Ic (upd H s.heap.objs.size (.lst ys)) { s with heap:=s.heap.push { cls:=.type "list",data:=.seq its.toArray },toks:=t' } :=
 I.laid (fun _ _ q=>Im _ q) (Ij _) ⟨hz,its,0,hv,Ip _ rfl⟩
theorem Inv.fresh (I:Inv X pins Ic H s):H s.heap.objs.size=none:=I.aW.fresh (Ij _)
theorem Inv.si (I:Inv X pins Ic H s)(hH:H l=some (.lst xs)):xs.length<=sizeLine/\∃(its:List Value) (n:Nat),Vals xs its/\xs.length=its.length/\s.heap.get? l=some { cls:=.type "list",data:=.seq its.toArray n }:=by
 obtain⟨z,its,n,r,e⟩:=I.aW l _ hH
 exact⟨z,its,n,r,r.length,e⟩
theorem Bw {n:Nat}(h:n<=sizeLine):Builtin.List.listTooLong n=false:=by
 unfold Builtin.List.listTooLong
 exact decide_eq_false (by omega)
end
section
variable {X:Cx}
inductive DK  (x:V) (vs:List V) (H:Hp) (Q:VK):Prop
 | mk (l xs y:_) (_:x=.ref l) (_:vs=[y]) (_:H l=some (.lst xs)) (_:xs.length<sizeLine) (_:Q .aT (upd H l (.lst (xs++[y]))))
theorem fB:zR X "list.append" DK:=by
 intro pins s Ic H x vs v us Q I rx rv h
 obtain⟨l,xs,y,rfl,rfl,hH,hz,q⟩:=h
 cases rx
 obtain⟨u,rfl,ru⟩:=rv.one
 obtain⟨z,its,n,r,hl,e⟩:=I.si hH
 refine call_meets F.slot_list_append ⟨_,e,rfl⟩ F.entry_list_append (F.args_list_append_2 _ _) (PySem.list_append l its.toArray n u (by rw [ID];omega)) ⟨e,?_⟩
 refine⟨.aT,_,I.Bv (its':=its++[u]) hH e (by simp) (r.append (.cons ru .nil)) ?_,rfl,q⟩
 rw [Io,List.length_singleton]
 omega
inductive DL  (x:V) (vs:List V) (H:Hp) (Q:VK):Prop
 | mk (l b xs zs:_) (_:x=.ref l) (_:vs=[.ref b]) (_:H l=some (.lst xs)) (_:H b=some (.lst zs)) (_:xs.length+zs.length<=sizeLine) (_:Q .aT (upd H l (.lst (xs++zs))))
theorem tP:zR X "list.extend" DL:=by
 intro pins s Ic H x vs v us Q I rx rv h
 obtain⟨l,b,xs,zs,rfl,rfl,hH,hB,hz,q⟩:=h
 cases rx
 obtain⟨u,rfl,ru⟩:=rv.one
 cases ru
 obtain⟨z,its,n,r,hl,e⟩:=I.si hH
 obtain⟨z2,its2,n2,r2,hl2,e2⟩:=I.si hB
 have hsz:its.toArray.size+its2.toArray.size<=sizeLine:=by rw [ID,ID];omega
 have hlong:¬(!its.toArray.isEmpty&&Builtin.List.listTooLong (its.toArray.size+its2.toArray.size))=true:=by
  rw [Bw hsz,J3]
  exact IU
 refine call_meets F.slot_list_extend ⟨_,e,rfl⟩ F.entry_list_extend (F.args_list_extend_2 _ _)
  (AutoSeq1.list_extend_list_list_0 l its.toArray n b its2.toArray n2 hlong (by rw [ID];omega) (by omega)) ⟨e,e2,?_⟩
 refine⟨.aT,_,I.Bv (its':=its++its2) hH e (by simp) (r.append r2) ?_,rfl,q⟩
 rw [Io]
 omega
inductive Hx  (x:V) (vs:List V) (H:Hp) (Q:VK):Prop
 | mk (l xs y:_) (_:x=.ref l) (_:vs=[]) (_:H l=some (.lst xs)) (_:xs[xs.length-1]?=some y) (_:Q y (upd H l (.lst xs.dropLast)))
theorem Fg:zR X "list.pop" Hx:=by
 intro pins s Ic H x vs v us Q I rx rv h
 obtain⟨l,xs,y,rfl,rfl,hH,hy,q⟩:=h
 cases rx
 have hus:=rv.zero
 subst hus
 obtain⟨z,its,n,r,hl,e⟩:=I.si hH
 obtain⟨u,hu,ru⟩:=r.get hy
 have hy':its.toArray[its.toArray.size-1]?=some u:=by
  show its.toArray[its.length-1]?=some u
  rw [<-Km,<-hl]
  exact hu
 refine call_meets F.slot_list_pop ⟨_,e,rfl⟩ F.entry_list_pop (F.args_list_pop_1 _) (MeetsSeq.list_pop_last l its.toArray n u hy' (by rw [ID];omega)) ⟨e,?_⟩
 refine⟨y,_,I.Bv (its':=its.dropLast) hH e ?_ r.dropLast ?_,ru,q⟩
 ·show its.toArray.eraseIdxIfInBounds (its.toArray.size-1)=its.dropLast.toArray
  rw [ID,List.eraseIdxIfInBounds_toArray,yM]
 ·rw [List.length_dropLast]
  omega
inductive Hy  (x:V) (y:V) (H:Hp) (Q:VK):Prop
 | mk (l b xs zs:_) (_:x=.ref l) (_:y=.ref b) (_:H l=some (.lst xs)) (_:H b=some (.lst zs)) (_:xs.length+zs.length<=sizeLine) (_:∀p,H p=none->Q (.ref p) (upd H p (.lst (xs++zs))))
theorem Fh:d5 X (binaryOp .Add) Hy:=by
 intro pins s Ic H x y v u Q I rx ry h
 obtain⟨l,b,xs,zs,rfl,rfl,hH,hB,hz,q⟩:=h
 cases rx
 cases ry
 obtain⟨z,its,n,r,hl,e⟩:=I.si hH
 obtain⟨z2,its2,n2,r2,hl2,e2⟩:=I.si hB
 refine PySem.P.add_list e e2 ?_ (by rw [ID,ID];omega)
 have ea:its.toArray++its2.toArray=(its++its2).toArray:=by simp
 rw [ea]
 exact⟨.ref _,_,I.Hw (t':=s.toks) (r.append r2) (by rw [Io];omega),rfl,q _ I.fresh⟩
theorem len_rep {α : Type}(xs:List α)(k:Nat):(IX k xs).flatten.length=k*xs.length:=by
 induction k with
 | zero=>simp
 | succ k ih=>rw [J2,Kl,Io,ih,Nat.succ_mul,Nat.add_comm]
end
section
variable {prog:Program}{w:World}{A:Around}{E:Value->Shared->Prop}{s:Shared}
end
section
variable {X:Cx}
end
end L2
namespace GS
open PySem PySem.W PySem.Calls PyProof.Rows
theorem qF {P:Params}{h:Heap}:∀(ns:List Int) (vs:List Value),WellAll P h vs (ns.map WData.int)->IntsAre vs ns:=by
 intro ns
 induction ns with
 | nil =>
  intro vs w
  rw [List.map_nil] at w
  cases w
  exact .nil
 | cons n ns ih =>
  intro vs w
  rw [IK] at w
  cases w with
  | cons a b =>
   cases a
   exact .cons _ _ (ih _ b)
theorem zS {l:OpenLaw}{n:Nat}(hn:l.most=some n){P:Params}{h:Heap}{args:List WData}{vals:List Value}
  (hpre:l.row.toRowW.claim.pre args=true) (hwl:WellAll P h vals args) :
  ∃a vs ns,vals=[Value.ref a]/\args=[WData.list (ns.map WData.int)]/\h.get? a=some { cls:=.type "list",data:=.seq vs.toArray }/\IntsAre vs ns/\ns.length<=n:=by
 have hsh:WShape.hasAll [] args [.list .int]=true:=(pre_splitW hpre).1
 have hc:l.pre.holds [] { args:=args }=true:=(pre_splitW hpre).2
 obtain⟨d,r,rfl,h1,h2⟩:=hasAllW_cons hsh
 obtain rfl:=hasAllW_nil h2
 obtain⟨xs,rfl,h3⟩:=hasW_list h1
 obtain⟨ns,rfl⟩:=items_int h3
 have hlen:ns.length<=n:=by
  unfold OpenLaw.pre at hc
  have h4:(WTm.not (.lt (.lit (.int (n:Int))) (.len (.arg 0)))).holds [] { args:=[.list (ns.map .int)] }=true:=by
   have h4:=(holds_andW hc).1
   rw [hn] at h4
   exact h4
  have h5:=condW_of h4 (w_not (w_lt w_lit (w_len_list (w_arg rfl))))
  rw [Ig] at h5
  refine Nat.le_of_not_lt fun q=>?_
  have q':(n:Int)<((ns.length:Nat):Int):=by omega
  first
   | (rw [decide_eq_true q'] at h5;exact absurd h5 (by decide))
   | (simp at h5;omega)
 cases hwl with
 | cons w1 w2 =>
  cases w2
  cases w1 with
  | list ho hall=>exact⟨_,_,ns,rfl,rfl,ho,qF ns _ hall,hlen⟩
theorem zT (l:OpenLaw)(args:List WData):l.row.toRowW.claim.post args (.bool true) args=true :=
 postW_of (r:=l.row.toRowW) (X:=(true == true))
  (show WShape.has [] (.bool true) .bool=true by first | rfl | decide | simp [WShape.has,WShape.arms,WShape.armsAll])
  (show (WTm.eq .res (.lit (.bool true))).value [] { args:=args,res:=some (.bool true),after:=args }=some (.bool (true == true)) from w_eq_bool (w_res rfl) w_lit) rfl
theorem wV {l:OpenLaw}{n:Nat}{q:Program}{loose:List Str}{XP:(Str->Option Value)->Heap->Prop}{YP:World->Heap->Prop}{d:DefRec}
  (hn:l.most=some n) (hdf:d.params.defaults=[])
  (call:∀(w:World) (eh s₁ : Shared) (mg mb:Str->Option Value) (fa:Addr) (o:Obj) (pm cd doc:Value) (a:Addr) (vs:List Value) (ns:List Int),
   Ground q loose [] XP w eh mg mb s₁.heap->YP w s₁.heap ->
   s₁.heap.get? fa=some o->o.data=.func (docDef d.name d.params d.body d.scope pm cd doc)->s₁.heap.CodeRec cd d.name->mg d.name=some (.ref fa) ->
   s₁.heap.get? a=some { cls:=.type "list",data:=.seq vs.toArray }->IntsAre vs ns->ns.length<=n->s₁.gens = #[] ->
   codeAny (model l.prog w) callerA (.call (.ref fa) ⟨[.ref a],[]⟩) (fun r s'=>r=.ok (.ret (.bool true))/\OldK s₁.heap s'.heap/\s'.os=s₁.os/\AllBare s'.gens) s₁) :
  WalkO q loose XP YP l.row.toRowW d [] (fun f vs=>PySem.call f vs):=by
 intro w eh s₁ mg mb G Y fa o pm cd doc dV kV ho hd hcd hD hmg hg args vals as hpre hlay hrd hwl hlo
 obtain rfl:dV=.none:=Dflts.none hD hdf
 obtain rfl:kV=.none:=Dflts.noKw hD
 obtain⟨a,vs,ns,rfl,rfl,hobj,hints,hlen⟩:=zS hn hpre hwl
 refine enter_call (K6 (call w eh s₁ mg mb fa o pm cd doc a vs ns G Y ho (fd_plain hd) hcd hmg hobj hints hlen hg) fun r s' hq=>?_)
 obtain⟨rfl,h2,h3,h4⟩:=hq
 exact⟨.inl ⟨.bool true,.bool true,[],rfl,fun _=>rfl,.bool true,zT l _,fun _=>⟨Jq.nil,fun _ hm=>(nomatch hm)⟩⟩,h2,h3,h4⟩
section
variable {prog:Program}{w:World}{A:Around}{E:Value->Shared->Prop}{s:Shared}{K:Frag}
def ledger (h:Heap)(L d:Addr):List (Addr×Obj):=(IZ h.objs.size).filterMap fun a=>if a=L\/a=d then none else (h.get? a).map fun o=>(a,o)
end
end GS
namespace L2
open PySem PySem.Spec PyProof.Rows
theorem m7:∀{vs:List Value} {ns:List Int},IntsAre vs ns->Vals (ns.map V.int) vs
 | _,_,.nil=>.nil
 | _,_,.cons n t h=>.cons ⟨t,rfl⟩ (m7 h)
def Bx (H:Hp):Prop:=∀b,H b=none\/∃o xs,H b=some (.eR o (.lst xs))
theorem By {P:Program}{w:World}{K:Ih}{mg mb:Str->Option Value}{CX:mZ}{k:Nat}{fa a:Addr}{fd:FuncData}{x:Str}{sp:Sp}{s₁ : Shared}{vs:List Value}{ns:List Int}
    (KX:K.In s₁.heap) (hns:s₁.heap.Ns mainGlobals mg) (hb:s₁.heap.Ns builtinsNs mb) (hbb:∀x:Str,x ≠ "__name__" -> mb x=bootBuiltins x) (hlim:s₁.heap.NoLimit) (hg:s₁.gens = #[])
    (ha:s₁.heap.get? a=some { cls:=.type "list",data:=.seq vs.toArray }) (hi:IntsAre vs ns) (hl:ns.length<=sizeLine) (hr:cZ k callerA)
    (F:∀base:Heap,K.In base->base.Ns mainGlobals mg->bu P w K mg base CX k fa fd [x] sp) (hbind:∀(s:Shared) (u:Value),BindsTo s fd ⟨[u],[]⟩ [(x,u)])
    (hsp:∀H:Hp,Bx H->aN K H a (ns.map V.int)->sp [.ref a] H (fun v _=>v=.bl true) fun _ _ _=>False)
    (hCX:∀H e s',CX [] H s₁ (fun _ _ _=>False) e s'->False) :
    codeAny (model P w) callerA (.call (.ref fa) ⟨[.ref a],[]⟩) (fun r s'=>r=.ok (.ret (.bool true))/\OldK s₁.heap s'.heap/\s'.os=s₁.os/\AllBare s'.gens) s₁:=by
  have rv:=m7 hi
  have lenV:=hi.length
  have core:∀H:Hp,Bx H->aN K H a (ns.map V.int)->en P w H s₁.heap->(∀b,H b≠none->b=a)->(H a≠none->K.lookup a=none) ->
      codeAny (model P w) callerA (.call (.ref fa) ⟨[.ref a],[]⟩) (fun r s'=>r=.ok (.ret (.bool true))/\OldK s₁.heap s'.heap/\s'.os=s₁.os/\AllBare s'.gens) s₁:=by
    intro H hO hS aW hA hK
    have base_of:∀{b:Addr} {o:Obj},s₁.heap.get? b=some o->H b=none->(lL s₁.heap H).get? b=some o:=fun e n=>Ba e n
    have noA:∀{b:Addr} {o:Obj} {es:Array DictEntry} {ep:Nat},s₁.heap.get? b=some o->o.data=.dict es ep->H b=none:=fun {b o es ep} e d=>by
      cases q:H b with
      | none=>rfl
      | some u =>
        have e':b=a:=hA b (by rw [q];simp)
        subst e'
        rw [ha] at e;cases e
        have d':Data.seq vs.toArray _=Data.dict es ep:=d
        cases d'
    have nsK:∀{b:Addr} {m:Str->Option Value},s₁.heap.Ns b m->(lL s₁.heap H).Ns b m:=fun {b m} ⟨o,es,ep,e,d,r⟩=>⟨o,es,ep,base_of e (noA e d),d,r⟩
    have hKb:K.In (lL s₁.heap H):=fun b o e=>base_of (KX b o e) (by
      cases q:H b with
      | none=>rfl
      | some u =>
        have e':b=a:=hA b (by rw [q];simp)
        subst e'
        rw [hK (by rw [q];simp)] at e;cases e)
    have hM:Mod K mg (lL s₁.heap H):=⟨hKb,nsK hns,⟨mb,nsK hb,hbb⟩,let ⟨mc,h1,h2⟩:=hlim;⟨mc,nsK h1,h2⟩⟩
    have e0:pI P w K mg (lL s₁.heap H) callerA [] s₁ H:=⟨rfl,hM,fun b o e=>Dr e,Nat.le_of_eq (zD _ _),trivial,fun b hb=>absurd (show b∈([]:List Addr) from hb) (by simp),aW,.of_eq hg⟩
    refine K6 ((F _ hKb (nsK hns)).run callerA [] s₁ H ⟨[.ref a],[]⟩ [.ref a] [.ref a] _ _ hr e0 (hbind s₁ (.ref a)) (.cons rfl .nil) (hsp H hO hS)) fun r s' h=>?_
    cases r with
    | error e=>exact (hCX H e s' h).elim
    | ok fl =>
      cases fl with
      | next=>exact False.elim h
      | brk=>exact False.elim h
      | cont=>exact False.elim h
      | ret u =>
        obtain⟨v,H',os,bare,un,hok',r',q⟩:=h
        have q':v=.bl true:=q
        subst q'
        obtain rfl:u=Value.bool true:=r'
        refine⟨rfl,OldK.of_keep fun b o e=>?_,os,bare⟩
        cases q:H b with
        | none=>exact un.keep b o e q (by intro z;exact absurd (show b∈([]:List Addr) from z) (by simp)) (by simp)
        | some u =>
          rcases hO b with z | ⟨ob,xs,z⟩
          . rw [q] at z;cases z
          . have z2:=un.je b ob _ z
            obtain⟨e1,_⟩:=aW b _ z
            obtain⟨e2,_⟩:=hok' b _ z2
            rw [e] at e1;cases e1
            exact e2
  cases hk:K.lookup a with
  | some o =>
    have e:=KX a o hk
    rw [ha] at e
    cases e
    refine core (fun _=>none) (fun _=>.inl rfl) (.inr ⟨_,vs.toArray,_,hk,rfl,rfl,rfl,by rw [ID,lenV];exact hl,by simpa using rv⟩) (fun b u z=>by have z':(none:Option HO)=some u:=z;cases z') (fun b z=>absurd rfl z) fun z=>absurd rfl z
  | none =>
    refine core (fun b=>if b=a then some (.eR { cls:=.type "list",data:=.seq vs.toArray } (.lst (ns.map V.int))) else none) (fun b=>?_) (.inl (.inr ⟨{ cls:=.type "list",data:=.seq vs.toArray },if_pos rfl⟩)) (fun b u z=>?_) (fun b z=>?_) fun _=>hk
    . by_cases hb:b=a
      . exact .inr ⟨_,_,if_pos hb⟩
      . exact .inl (if_neg hb)
    . by_cases hb:b=a
      . have z':=(if_pos hb).symm.trans z
        cases z'
        subst hb
        exact⟨ha,by rw [Ig];exact hl,vs,_,rv,ha⟩
      . have z':=(if_neg hb).symm.trans z
        cases z'
    . by_cases hb:b=a
      . exact hb
      . exact absurd (if_neg hb) z
abbrev KOf {K:Ih}{h:Heap}(_:K.In h):Ih:=K
theorem DM {l:PySem.W.OpenLaw}{n k:Nat}{q:Program}{loose:List Str}{XP:(Str->Option Value)->Heap->Prop}{YP:World->Heap->Prop}{d:DefRec}{K:Params->Ih}{CX:World->mZ}{sp:World->Sp}{x:Str}
  (hn:l.most=some n) (hn2:n<=sizeLine) (hdf:d.params.defaults=[]) (hr:cZ k callerA)
  (hY:∀(w:World) (h:Heap),YP w h->(K w.params).In h)
  (F:∀(w:World) (mg:Str->Option Value) (fa:Addr) (h:Heap),(K w.params).In h->h.Ns mainGlobals mg->mg d.name=some (.ref fa) ->
   ∃fd:FuncData,(∀(s:Shared) (u:Value),BindsTo s fd ⟨[u],[]⟩ [(x,u)]) /\
    ∀base:Heap,(K w.params).In base->base.Ns mainGlobals mg->bu l.prog w (K w.params) mg base (CX w) k fa fd [x] (sp w))
  (hsp:∀(w:World) (H:Hp) (a:Addr) (ns:List Int),ns.length<=n->Bx H->aN (K w.params) H a (ns.map V.int)->sp w [.ref a] H (fun v _=>v=.bl true) fun _ _ _=>False)
  (hCX:∀(w:World) (H:Hp) (s:Shared) (e:Value) (s':Shared),CX w [] H s (fun _ _ _=>False) e s'->False) :
  PySem.W.WalkO q loose XP YP l.row.toRowW d [] (fun f vs=>PySem.call f vs):=by
 refine GS.wV hn hdf fun w eh s₁ mg mb fa o pm cd doc a vs ns G Y ho hd hcd hmg hobj hints hlen hg=>?_
 have KX:=hY w _ Y
 obtain⟨fd,hb,hF⟩:=F w mg fa _ KX G.T.g hmg
 exact By KX G.T.g G.T.b G.T.builtins G.T.nolimit hg hobj hints (Ir hlen hn2) hr hF hb (fun H hO hS=>hsp w H a ns hlen hO hS) fun H e s'=>hCX w H s₁ e s'
def inClass (s:Stmt)(j:Nat):Stmt:=match s with
 | .ClassDef _ _ _ body _ _ _ _ _ _ _=>body.getD j (.Pass ⟨0,0,0,0⟩)
 | _=>.Pass ⟨0,0,0,0⟩
def d6 (s:Stmt):Arguments:=match s with
 | .FunctionDef _ a _ _ _ _ _ _ _ _=>a
 | _=>{ posonlyargs:=[],args:=[],vararg:=none,kwonlyargs:=[],kw_defaults:=[],kwarg:=none,defaults:=[] }
def dH (s:Stmt):List Stmt:=match s with
 | .FunctionDef _ _ b _ _ _ _ _ _ _=>b
 | _=>[]
def au (s:Stmt):Scope:=match s with
 | .FunctionDef _ _ _ _ _ _ sc _ _ _=>sc
 | _=>{ kind:=.function,names:=[],isGenerator:=false,isCoroutine:=false }
abbrev bQ:mZ:=fun _ _ _ _ _ _=>False
abbrev E0:XK:=fun _ _ _=>False
theorem u9 {X:Cx}:Passes bQ X E0:=fun _ _ _ _ _ _ _ h=>h.elim
structure bR (K:Ih) (x qual:Str) (st:Stmt) (f:Addr) (fd:FuncData):Prop where
 ex:∃(oc:Value) (od:Option Addr) (kV doc pm:Value) (an:Option Addr) (cdv ct:Value) (osl:Array (Option Value)),
  fd=Je x qual (d6 st) (dH st) (au st) .none kV doc pm an cdv ct/\K.lookup f=some ⟨oc,od,.func fd,osl⟩/\JH K cdv qual=true
 kp:Jn K (.ref f)=true
section
variable {P:Program}{w:World}{K:Ih}{mg:Str->Option Value}{base:Heap}
theorem bR.ok {x qual:Str}{st:Stmt}{f:Addr}{fd:FuncData}{N ps:List Str}{k:Nat}{sp:Sp}(F:bR K x qual st f fd)(S:aO N ps (au st))(len:∀vs H Q E,sp vs H Q E->vs.length=ps.length)
  (hbody:∀(cdv:Value) (A:Around) (outer:List Env) (s:Shared) (H:Hp) (vs:List V) (Q:VK) (E:XK),cZ k (A.deeper (envOfC qual (au st) s.heap.objs.size f cdv))->sp vs H Q E ->
   ∃t,jE (pJ bQ P w K mg base N qual (au st) f cdv A outer s H E).xq (dH st) t/\t { nx:=fun _ H'=>Q .aT H',rt:=Q } (start N vs) H):bu P w K mg base bQ (k+1) f fd ps sp:=by
 obtain⟨oc,od,kV,doc,pm,an,cdv,ct,osl,rfl,lk,hcd⟩:=F.ex
 refine C2 lk hcd S len fun A outer s H vs Q E hr hsp=>?_
 obtain⟨t,h,q⟩:=hbody cdv A outer s H vs Q E hr hsp
 exact⟨t,h.xq,q⟩
theorem bR.binds {x qual:Str}{st:Stmt}{f:Addr}{fd:FuncData}{ps:List Str}(F:bR K x qual st f fd)
  (h:∀(kV doc pm:Value) (an:Option Addr) (cdv ct:Value) (us:List Value),us.length=ps.length->bindArgs (Je x qual (d6 st) (dH st) (au st) .none kV doc pm an cdv ct) ⟨us,[]⟩=pure (ps.zip us)):Binds K fd ps []:=by
 obtain⟨oc,od,kV,doc,pm,an,cdv,ct,osl,rfl,lk,hcd⟩:=F.ex
 exact .all (h kV doc pm an cdv ct)
theorem zU {x qual:Str}{st:Stmt}{f:Addr}{oc:Value}{od an:Option Addr}{osl:Array (Option Value)}{kV doc pm cdv ct:Value}(l:K.lookup f=some ⟨oc,od,.func (Je x qual (d6 st) (dH st) (au st) .none kV doc pm an cdv ct),osl⟩)
  (c:JH K cdv qual=true) (k:Jn K (.ref f)=true):bR K x qual st f (Je x qual (d6 st) (dH st) (au st) .none kV doc pm an cdv ct):=⟨⟨oc,od,kV,doc,pm,an,cdv,ct,osl,rfl,l,c⟩,k⟩
end
theorem dQ {A:Around}{k:Nat}(hr:cZ k A):A.units+1<cLine:=J4 (Nat.add_le_add_left (by decide:1<=64) _) hr.units
theorem ba {n:Nat}(h:n<=1000):n<sizeLine:=J4 h (by decide)
section
variable {X:Cx}
theorem pv (i:Nat){x:Str}{pos:Pos}(hN:X.N[i]?=some x:=by rfl)(hv:EI X.env.scope x:=by first | exact Or.inl rfl | exact IG (Or.inl rfl) | exact IG (IG rfl))(hd:(x == ("__debug__" : Str))=false:=by decide)
  (hcd:(x == ("__classdict__" : Str))=false:=by decide):PE X (.Name x pos) (sd i):=EJ hN hv hd hcd
end
theorem bw {A B:Prop}(h:B):if false=true then A else B:=by
 rw [if_neg IU]
 exact h
theorem bh {A B:Prop}(h:A):if true=true then A else B:=by
 rw [if_pos rfl]
 exact h
theorem cU {c A B:Prop}[Decidable c](h1:c->A)(h2:¬c->B):if c then A else B:=by
 by_cases h:c
 ·rw [if_pos h]
  exact h1 h
 ·rw [if_neg h]
  exact h2 h
def ae (H H':Hp):Prop:=∀b o,H b=some o->H' b=some o
theorem ae.refl (H:Hp):ae H H:=fun _ _ h=>h
theorem ae.trans {H H1 H2:Hp}(a:ae H H1)(b:ae H1 H2):ae H H2:=fun c o h=>b c o (a c o h)
theorem ae.free {H H':Hp}(e:ae H H'){l:Addr}(h:H' l=Option.none):H l=Option.none:=by
 cases q:H l with
 | none=>rfl
 | some o =>
  rw [e l o q] at h
  cases h
theorem ae.seq {K:Ih}{H H':Hp}{a:Addr}{xs:List V}(e:ae H H')(h:aN K H a xs):aN K H' a xs:=by
 rcases h with (h | ⟨o,h⟩) | h
 ·exact .inl (.inl (e _ _ h))
 ·exact .inl (.inr ⟨o,e _ _ h⟩)
 ·exact .inr h
section
variable {X:Cx}
theorem DN:d5 X (binaryOp .Mult) (rI IntMulOk fun i j=>.int (i*j)):=xu fun _ _ _ _ _ _ _ hc q=>mul_int q hc
def Gp (_i j:Int):Prop:=0<j/\j.natAbs.log2<9000
theorem Bz:d5 X (binaryOp .FloorDiv) (rI Gp fun i j=>.int (i / j)):=xu fun i j _ _ _ _ _ hc q=>by
 have h1:(0:Int)<j:=hc.1
 exact floordiv_int (by omega) (by rw [Int.fdiv_eq_ediv_of_nonneg i (by omega)];exact q) (.inl (PyProof.noPylong_of_log2 hc.2))
structure Own (P:Program) (w:World) (K:Ih) (mg:Str->Option Value) (base:Heap) (x:Str) (k:Nat) (ps:List Str) (sp:Sp):Prop where
 ex:∃f fd,bu P w K mg base bQ k f fd ps sp/\mg x=some (.ref f)/\Jn K (.ref f)=true/\Binds K fd ps []
variable {x:Str}{k:Nat}{ps:List Str}{sp:Sp}{e:Expr}{es:List Expr}{t:TA}{p pos:Pos}
theorem Fi (o:Own X.prog X.w X.K X.mg X.base x k ps sp)(hr:cZ k X.A)(hg:Gl X x)(ha:PA X (e::es) t)
  (hdb:(x == ("__debug__" : Str))=false:=by decide) (he:starEach (e::es) X.env=(false,eval e X.env)::starEach es X.env:=by rfl)
  (hpl:(backTo pos (starEach es X.env)).any (·.1)=false:=by rfl):PE X (.Call (.Name x p) (e::es) [] pos) (yH sp [] E0 t):=by
 obtain⟨f,fd,F,hm,hk,hb⟩:=o.ex
 exact DF F hr hg hm hk hb .nil u9 ha hdb he hpl
end
theorem cg {α : Type}{x:α}{xs:List α}:fQ (x::xs) 0=some x:=bV (j:=0) rfl
theorem cS {α : Type}{x y:α}{xs:List α}:fQ (x::y::xs) 1=some y:=bV (j:=1) rfl
theorem at2 {α : Type}{x y z:α}{xs:List α}:fQ (x::y::z::xs) 2=some z:=bV (j:=2) rfl
theorem yN {α : Type}{xs:List α}{i:Int}(h0:0<=i)(h1:i<xs.length):∃v,fQ xs i=some v/\v∈xs:=by
 obtain⟨j,rfl⟩:∃j:Nat,i=j:=⟨i.toNat,by omega⟩
 have hj:j<xs.length:=by omega
 exact⟨xs[j],bV (by simp [hj]),Kn hj⟩
theorem bZ:bootBuiltins "len" = some (.builtin "len"):=by decide +kernel
theorem vw:bootBuiltins "min" = some (.builtin "min"):=by decide +kernel
theorem Fj:bootBuiltins "max" = some (.builtin "max"):=by decide +kernel
theorem jQ:bootBuiltins "int" = some (.type "int"):=by decide +kernel
theorem cA:bootBuiltins "tuple" = some (.type "tuple"):=by decide +kernel
theorem sj:bootBuiltins "list" = some (.type "list"):=by decide +kernel
def dM (H:Hp)(b:Addr):Prop:=∃x y:Int,H b=some (.lst [.int x,.int y])/\0<=y/\y<2147483648
def Fix (b:Addr)(H H':Hp):Prop:=∀c o,H c=some o->c≠b->H' c=some o
theorem Fix.trans {b:Addr}{H H1 H2:Hp}(u:Fix b H H1)(v:Fix b H1 H2):Fix b H H2:=fun c o h n=>v c o (u c o h n) n
theorem Fix.C4 {b:Addr}{H:Hp}{o:HO}:Fix b H (upd H b o):=fun c u h n=>by rw [ao n];exact h
theorem Fix.new {b p:Addr}{H:Hp}{o:HO}(hp:H p=none):Fix b H (upd H p o):=fun c u h _=>by rw [ao (aK h hp)];exact h
theorem Fix.of_same {b:Addr}{H H':Hp}(h:ae H H'):Fix b H H':=fun c o e _=>h c o e
theorem ae.new {p:Addr}{H:Hp}{o:HO}(hp:H p=none):ae H (upd H p o):=fun c u h=>by rw [ao (aK h hp)];exact h
theorem dM.new {b p:Addr}{H:Hp}{o:HO}(h:dM H b)(hp:H p=none):dM (upd H p o) b:=by
 obtain⟨x,y,e,q⟩:=h
 exact⟨x,y,by rw [ao (aK e hp)];exact e,q⟩
theorem dM.same {b:Addr}{H H':Hp}(h:dM H b)(s:ae H H'):dM H' b:=by
 obtain⟨x,y,e,q⟩:=h
 exact⟨x,y,s _ _ e,q⟩
theorem o1 {α : Type}{x0:α}:[x0].length<=sizeLine:=by show 1<=sizeLine;decide
theorem ln2 {α : Type}{x0 x1:α}:[x0,x1].length<=sizeLine:=by show 2<=sizeLine;decide
theorem tQ {α : Type}{x0 x1 x2:α}:[x0,x1,x2].length<=sizeLine:=by show 3<=sizeLine;decide
theorem HM {α : Type}{x0 x1 x2 x3 x4:α}:[x0,x1,x2,x3,x4].length<=sizeLine:=by show 5<=sizeLine;decide
theorem HN {α : Type}{x0 x1 x2 x3 x4 x5 x6:α}:[x0,x1,x2,x3,x4,x5,x6].length<=sizeLine:=by show 7<=sizeLine;decide
theorem ae.qG {b:Addr}{H H1 H2:Hp}(s:ae H H1)(n:H b=none)(f:Fix b H1 H2):ae H H2:=fun c o e=>f c o (s c o e) (aK e n)
theorem dM.dW {b p:Addr}{H:Hp}{xs:List V}(h:dM H b)(e:H p=some (.tup xs)):p≠b:=by
 obtain⟨x,y,e1,_⟩:=h
 exact bJ e e1 (by intro z;cases z)
theorem dM.fm {b p:Addr}{H:Hp}(h:dM H b)(e:H p=none):p≠b:=by
 obtain⟨x,y,e1,_⟩:=h
 exact fun z=>aK e1 e z.symm
inductive C5 (K:Ih) (vs:List V) (H:Hp) (Q:VK) (_:XK):Prop
 | mk (a:Addr) (ns:List Int) (k:Int) (_:vs=[.ref a,.int k]) (_:aN K H a (ns.map V.int)) (_:0<=k) (_:∀b H',H b=none->dM H' b->ae H H'->Q (.ref b) H')
inductive ib  (vs:List V) (H:Hp) (Q:VK) (_:XK):Prop
 | mk (b:Addr) (m:Int) (_:vs=[.ref b,.int m]) (_:dM H b) (_:(0<m/\m.natAbs.log2<9000)) (_:∀r H',0<=r->r<m->dM H' b->Fix b H H'->Q (.int r) H')
inductive va (K:Ih) (vs:List V) (H:Hp) (Q:VK) (_:XK):Prop
 | mk (a:Addr) (ns:List Int) (_:vs=[.ref a]) (_:aN K H a (ns.map V.int)) (_:ns.length<=63) (_:∀H',Q (.bl true) H')
def kZ (cells:List (Str×Addr)):List (Str×NameKind)->List (Str×Addr)->List (Str×Addr)
 | [],cs=>cs
 | (n,k)::r,cs=>kZ cells r (if k == .free then (n,(cells.lookup n).getD 0)::cs else cs)
theorem qH {scope:Scope}{env:Env}(hf:∀y∈scope.names,y.2=.free->∃c,env.cells.lookup y.1=some c):closureFor scope env=pure (kZ env.cells scope.names []):=by
 have key:∀(names:List (Str×NameKind)) (cs:List (Str×Addr)),(∀y∈names,y.2=.free->∃c,env.cells.lookup y.1=some c) ->
   (forIn names cs fun x r=>match x with
    | (name,kind)=>if (kind == NameKind.free)=true then (do let a <-cellOf env name;pure (ForInStep.yield ((name,a)::r))) else pure (ForInStep.yield r):Sem (List (Str×Addr)))=pure (kZ env.cells names cs):=by
  intro names
  induction names with
  | nil=>intro cs _;rfl
  | cons y r ih =>
   intro cs hy
   obtain⟨n,k⟩:=y
   have ih':=fun cs=>ih cs fun z hz=>hy z (Iz _ hz)
   rw [JK]
   by_cases hk:(k == NameKind.free)=true
   ·have e:k=.free:=by simpa using hk
    obtain⟨c,hc⟩:=hy (n,k) Iy e
    have hc':env.cells.lookup n=some c:=hc
    simp only [hk,if_true,cellOf,hc',pure_bind,kZ,Option.getD_some]
    exact ih' _
   ·have hk':(k == NameKind.free)=false:=by simpa using hk
    simp only [hk',Ju,if_false,pure_bind,kZ]
    exact ih' _
 unfold closureFor
 have e:=key scope.names [] hf
 show ((forIn scope.names ([]:List (Str×Addr)) fun x r=>match x with
    | (name,kind)=>if (kind == NameKind.free)=true then (do let a <-cellOf env name;pure (ForInStep.yield ((name,a)::r))) else pure (ForInStep.yield r):Sem (List (Str×Addr))) >>= fun r=>pure r)=_
 rw [e,pure_bind]
theorem m8 {cells:List (Str×Addr)}:∀(names:List (Str×NameKind)) (cs:List (Str×Addr)),(∀y∈names,y.2=.free->∃c,cells.lookup y.1=some c) ->
  (∀x c,cs.lookup x=some c->cells.lookup x=some c)->∀x c,(kZ cells names cs).lookup x=some c->cells.lookup x=some c
 | [],_,_,h,x,c,e=>h x c e
 | (n,k)::r,cs,hf,h,x,c,e=>by
  refine m8 r _ (fun y hy=>hf y (Iz _ hy)) (fun z d hz=>?_) x c e
  by_cases hk:(k == NameKind.free)=true
  ·rw [if_pos hk] at hz
   obtain⟨c',hc⟩:=hf (n,k) Iy (by simpa using hk)
   have hc':cells.lookup n=some c':=hc
   rw [JA] at hz
   cases hzn:z == n with
   | true =>
    rw [hzn] at hz
    have:z=n:=by simpa using hzn
    subst this
    rw [hc'] at hz ⊢
    simpa using hz
   | false=>rw [hzn] at hz;exact h z d hz
  ·rw [if_neg hk] at hz;exact h z d hz
theorem sr {cells:List (Str×Addr)}{x:Str}:∀(names:List (Str×NameKind)) (cs:List (Str×Addr)),((x,NameKind.free)∈names\/∃c,cs.lookup x=some c)->∃c,(kZ cells names cs).lookup x=some c
 | [],_,h=>by
  rcases h with h | h
  ·cases h
  ·exact h
 | (n,k)::r,cs,h=>by
  refine sr r _ ?_
  by_cases hk:(k == NameKind.free)=true
  ·rw [if_pos hk]
   cases hxn:x == n with
   | true=>exact .inr ⟨_,by rw [JA,hxn]⟩
   | false =>
    rcases h with h | ⟨c,h⟩
    ·rcases Ii.mp h with h | h
     ·have:x=n:=(Prod.mk.inj h).1
      subst this
      simp at hxn
     ·exact .inl h
    ·exact .inr ⟨c,by rw [JA,hxn];exact h⟩
  ·rw [if_neg hk]
   rcases h with h | h
   ·rcases Ii.mp h with h | h
    ·have:NameKind.free=k:=(Prod.mk.inj h).2
     subst this
     simp at hk
    ·exact .inl h
   ·exact .inr h
theorem jR {env:Env}{x:Str}{k:NameKind}(hk:k=.cell\/k=.free):∀{names:List (Str×NameKind)},(∀y∈names,y.2≠.cell) ->
  (names.map fun (n,k)=>if (k == NameKind.free&&env.scope.kind == .function&&env.kindOf n == some .cell) then (n,NameKind.cell) else (n,k)).lookup x=some k->(x,NameKind.free)∈names
 | [],_,h=>by simp at h
 | (n,q)::r,hc,h=>by
  have ih:=jR (env:=env) (x:=x) hk (names:=r) (fun y hy=>hc y (Iz _ hy))
  have h':Jm x ((if (q == NameKind.free&&env.scope.kind == .function&&env.kindOf n == some .cell)=true then (n,NameKind.cell) else (n,q))::_)=some k:=h
  by_cases hq:(q == NameKind.free&&env.scope.kind == .function&&env.kindOf n == some .cell)=true
  ·rw [if_pos hq,JA] at h'
   have eq:q=.free:=by
    rw [Ja,Ja] at hq
    simpa using hq.1.1
   cases hxn:x == n with
   | true =>
    have:x=n:=by simpa using hxn
    subst this;subst eq
    exact Iy
   | false=>rw [hxn] at h';exact Iz _ (ih h')
  ·rw [if_neg hq,JA] at h'
   cases hxn:x == n with
   | true =>
    rw [hxn] at h'
    have:x=n:=by simpa using hxn
    subst this
    have e:q=k:=IA.inj h'
    subst e
    rcases hk with hk | hk
    ·exact absurd hk (hc (x,q) Iy)
    ·subst hk;exact Iy
   | false=>rw [hxn] at h';exact Iz _ (ih h')
theorem m9 {env:Env}{x:Str}:∀{names:List (Str×NameKind)},names.lookup x=some .free ->
  (names.map fun (n,k)=>if (k == NameKind.free&&env.scope.kind == .function&&env.kindOf n == some .cell) then (n,NameKind.cell) else (n,k)).lookup x=some .cell \/
  (names.map fun (n,k)=>if (k == NameKind.free&&env.scope.kind == .function&&env.kindOf n == some .cell) then (n,NameKind.cell) else (n,k)).lookup x=some .free
 | [],h=>by simp at h
 | (n,q)::r,h=>by
  have ih:=m9 (env:=env) (x:=x) (names:=r)
  show Jm x ((if (q == NameKind.free&&env.scope.kind == .function&&env.kindOf n == some .cell)=true then (n,NameKind.cell) else (n,q))::_)=some .cell \/
   Jm x ((if (q == NameKind.free&&env.scope.kind == .function&&env.kindOf n == some .cell)=true then (n,NameKind.cell) else (n,q))::_)=some .free
  rw [JA] at h
  by_cases hq:(q == NameKind.free&&env.scope.kind == .function&&env.kindOf n == some .cell)=true
  ·rw [if_pos hq,JA]
   cases hxn:x == n with
   | true=>exact .inl rfl
   | false=>rw [hxn] at h;exact ih h
  ·rw [if_neg hq,JA]
   cases hxn:x == n with
   | true=>rw [hxn] at h;exact .inr h
   | false=>rw [hxn] at h;exact ih h
def ic (X:Cx)(scope:Scope)(C:Addr)(N':List Str)(fp:List Addr)(s₁ : Shared)(H₁ : Hp):Cx where
 prog:=X.prog
 w:=X.w
 K:=X.K
 mg:=X.mg
 base:=X.base
 A:=X.A
 N:=N'
 eh:=s₁
 lM:=H₁
 env:=compEnvC scope (kZ X.env.cells scope.names []) C X.env
 outer:=X.stack
 stack:=X.stack
 ex:=fp
 fn:=fun _=>false
 calm:=X.calm
 pn:=[]
 xe:=fun _ _=>False
def iE (X:Cx)(scope:Scope):List Str->List Nat->Prop
 | [],[]=>True
 | x::fr,j::js=>(X.N[j]?=some x/\(X.env.kindOf x=some .cell\/X.env.kindOf x=some .free)/\scope.names.lookup x=some .free)/\iE X scope fr js
 | _,_=>False
theorem iE.len {X:Cx}{scope:Scope}:∀{fr:List Str} {js:List Nat},iE X scope fr js->fr.length=js.length
 | [],[],_=>rfl
 | _::_,_::_,h=>by simp [iE.len h.2]
 | [],_::_,h=>h.elim
 | _::_,[],h=>h.elim
theorem iE.mem {X:Cx}{scope:Scope}{x:Str}:∀{fr:List Str} {js:List Nat},iE X scope fr js->x∈fr->X.env.kindOf x=some .cell\/X.env.kindOf x=some .free
 | [],[],_,h=>by cases h
 | a::fr,b::js,h,hm=>by
  rcases Ii.mp hm with rfl | hm
  ·exact h.1.2.1
  ·exact iE.mem h.2 hm
 | [],_::_,h,_=>h.elim
 | _::_,[],h,_=>h.elim
theorem iE.get {X:Cx}{scope:Scope}:∀{fr:List Str} {js:List Nat} {i:Nat} {x:Str} {j:Nat},iE X scope fr js->fr[i]?=some x->js[i]?=some j ->
  X.N[j]?=some x/\(X.env.kindOf x=some .cell\/X.env.kindOf x=some .free)/\scope.names.lookup x=some .free
 | [],[],_,_,_,_,h,_=>by simp at h
 | a::fr,b::js,0,x,j,h,h1,h2=>by
  simp at h1 h2
  subst h1;subst h2
  exact h.1
 | a::fr,b::js,i+1,x,j,h,h1,h2=>iE.get h.2 (by simpa using h1) (by simpa using h2)
 | [],_::_,_,_,_,h,_,_=>h.elim
 | _::_,[],_,_,_,h,_,_=>h.elim
def nc (n:Nat)(js:List Nat)(Ic : St):St:=IX n none++js.map fun j=>Ic.getD j none
theorem Fl {X:Cx}{pins:List (Addr×Obj)}{Ic : St}{H:Hp}{s:Shared}{scope:Scope}{fp:List Addr}{C:Addr}{N':List Str}(I:Inv X pins Ic H s)(hk:scope.kind=.function)(hcell:∀y∈scope.names,y.2≠.cell)
  (hf:∀y∈scope.names,y.2=.free->∃c,X.env.cells.lookup y.1=some c) (hC:s.heap.objs.size<=C) (hfp:∀b∈fp,hX X pins H b) (hlt:∀b∈fp,b<s.heap.objs.size):(ic X scope C N' fp s H).Ok:=by
 have ag:∀x c,(kZ X.env.cells scope.names []).lookup x=some c->X.env.cells.lookup x=some c:=m8 scope.names [] hf fun x c e=>by simp at e
 refine⟨I.ok.mod,hk,I.ok.glob,I.ok.blt,hC,fun x y c h1 h2=>I.ok.inj x y c (ag x c h1) (ag y c h2),fun x hx=>?_,(fun x c h=>(by cases h)),I.ok.hd,I.ok.frames,.inl rfl,fun b hb=>?_,I.bs,?_,fun b o e hb=>?_,fun b hb=>?_,I.stack,I.xo⟩
 ·refine sr scope.names [] (.inl ?_)
  rcases hx with hx | hx
  ·exact jR (.inl rfl) hcell hx
  ·exact jR (.inr rfl) hcell hx
 ·obtain⟨h1,h2,h3,h4,h5,h6⟩:=hfp b hb
  exact⟨Iq (IM (hlt b hb) hC),fun x c e=>h5 x c (ag x c e)⟩
 ·exact Ir I.ok.qt I.sz
 ·obtain⟨h1,h2,h3,h4,h5,h6⟩:=hfp b hb
  rcases h4 with h4 | h4
  ·exact I.ok.ve b o e h4
  ·exact absurd (IM (Ik e) (Ir I.ok.qt h4)) (IJ _)
 ·obtain⟨h1,h2,h3,h4,h5,h6⟩:=hfp b hb
  intro z
  rcases Ii.mp (I.qu b z) with z | z
  ·exact h2 z
  ·exact h3 z
def vx (J:It)(n:Nat)(js:List Nat)(g:TG)(ct:TT)(te:TE)(acc:Addr)(Ic : St)(H1:Hp)(Q:VK):Prop :=
 ∃W:Nat->Nat->List V->St->Hp->Prop,(∃m,W 0 m [] (nc n js Ic) (upd H1 acc (.lst [])))/\∀i m ys Ie H2,W i m ys Ie H2->H2 acc=some (.lst ys)/\ys.length<sizeLine /\
  ((J.stop i H2/\Q (.ref acc) H2)\/(J.go i H2/\∃N:List V->St->Hp->Prop,(∀ys' τ' H',N ys' τ' H'->∃m',m' < m/\W (i+1) m' ys' τ' H')/\∀x H3,J.tJ i H2 x H3->g x Ie H3 fun τ1 H4=>ct τ1 H4 fun b H5 =>
   if b=true then te τ1 H5 fun y H6=>H6 acc=some (.lst ys)/\N (ys++[y]) τ1 (upd H6 acc (.lst (ys++[y]))) else N ys τ1 H5))
def GU (n:Nat)(js:List Nat)(wi:TI)(g:TG)(ct:TT)(te:TE):TE:=fun Ic H Q=>wi Ic H fun J H1=>∀acc,H1 acc=none->vx J n js g ct te acc Ic H1 Q
def zV (X:Cx)(ifs:List Expr)(t:TT):Prop :=
 ∀(pins:List (Addr×Obj)) (s:Shared) (Ic : St) (H:Hp) (Q:Bool->Hp->Prop),Inv X pins Ic H s->t Ic H Q ->
  wpAny (model X.prog X.w) X.A (forIn ifs true fun c r=>if r=true then do let ok <-isTrue c X.env (eval c X.env);pure (ForInStep.yield ok) else pure (ForInStep.yield r)) (TP X pins Ic Q) X.xe s
def Fm:TT:=fun _ H Q=>Q true H
theorem eB {X:Cx}:zV X [] Fm:=fun _ _ Ic H Q I h=>KU ⟨H,I,h⟩
theorem iF {X:Cx}{c:Expr}{t:TT}(h:PT X c t):zV X [c] t:=by
 intro pins s Ic H Q I q
 rw [JK]
 simp only [if_true,bind_assoc,pure_bind]
 refine KS (br (h pins s Ic H Q I q) fun b s1 h1=>?_)
 exact KU h1
section
variable {X:Cx}{pos:Pos}
theorem mP {prog:Program}{w:World}{A:Around}{R:Result->Shared->Prop}{s:Shared}{elt target iter:Expr}{ifs:List Expr}{scope:Scope}{pos:Pos}{it acc:Value}{env:Env}(I:Nat->Shared->Prop)
  (turn:∀n s,I n s->wpAny (model prog w) A (pyNext it) (fun r s₁=>match r with
   | none=>R (.ok .next) s₁
   | some v=>wpAny (model prog w) A (letOwnedTupleGo target it v) (fun _ s₁'=>wpAny (model prog w) A (assign target env v) (fun _ s₂ =>
     wpAny (model prog w) A (forIn ifs true fun c r=>if r=true then do let ok <-isTrue c env (eval c env);pure (ForInStep.yield ok) else pure (ForInStep.yield r)) (fun ok s₃ =>
      if ok=true then wpAny (model prog w) A (eval elt env) (fun x s₄ =>
       wpAny (model prog w) A (call (.builtin "list.append") [acc,x]) (fun _ s₅=>∃m,m<n/\I m s₅) (fun _ _=>False) s₄) (fun _ _=>False) s₃
      else ∃m,m<n/\I m s₃) (fun _ _=>False) s₂) (fun _ _=>False) s₁') (fun _ _=>False) s₁) (fun _ _=>False) s)
  (n:Nat) (h:I n s) :
  codeAny (model prog w) A (.compLoop (.ListComp elt [⟨target,iter,ifs,0⟩] scope pos) 0 it acc env) R s:=by
 refine codeAny_loop rfl I (fun n s hI=>?_) n h
 show wpAny _ A ((compTurn (.ListComp elt [⟨target,iter,ifs,0⟩] scope pos) 0 it acc env).onRaise (fun x=>do noteFrame x env;theTreesLotGoes x)) _ _ s
 refine wpAny_noted ?_
 rw [compTurn_list]
 refine KS (K8 (KS (KW (turn n s hI) (fun r s₁ h₁=>?_) fun _ _ h'=>h'.elim)))
 cases r with
 | none=>exact KU h₁
 | some v =>
  refine KS (KW h₁ (fun _ s₁' h₁'=>?_) fun _ _ h'=>h'.elim)
  refine KS (KW h₁' (fun _ s₂ h₂=>KS (KW h₂ (fun ok s₃ h₃=>?_) fun _ _ h'=>h'.elim)) fun _ _ h'=>h'.elim)
  cases ok with
  | false=>exact KU ⟨rfl,h₃⟩
  | true =>
   exact KS (KS (KW h₃ (fun x s₄ h₄=>KS (KW h₄ (fun _ s₅ h₅=>KU (KU ⟨rfl,h₅⟩)) fun _ _ h'=>h'.elim)) fun _ _ h'=>h'.elim))
theorem xC {pins:List (Addr×Obj)}{Ic : St}{H:Hp}{s:Shared}{E:Value->Shared->Prop}{tg elt iter:Expr}{ifs:List Expr}{scope:Scope}{g:TG}{ct:TT}{te:TE}{ts fr:List Str}{js:List Nat}
    {it:Addr} {fp:List Addr} {tn:Nat->Heap->Prop} {J:It} {Q:VK} {RR:Value->Addr->Result->Shared->Prop}
    (hc:X.calm=true) (hkind:scope.kind=.function) (hcell:∀y∈scope.names,y.2≠.cell) (hfree:∀y∈scope.names,y.2=.free->X.env.kindOf y.1=some .cell\/X.env.kindOf y.1=some .free)
    (hfr:iE X scope fr js) (htg:∀C fp s₁ H₁,PG (ic X scope C (ts++fr) fp s₁ H₁) tg g) (hct:∀C fp s₁ H₁,zV (ic X scope C (ts++fr) fp s₁ H₁) ifs ct) (hte:∀C fp s₁ H₁,PE (ic X scope C (ts++fr) fp s₁ H₁) elt te)
    (I:Inv X pins Ic H s) (T:Turn X.prog X.w X.K tg J fp it tn) (st:tn 0 s.heap) (hfp:∀b∈fp,hX X pins H b)
    (h:∀acc,H acc=none->vx J ts.length js g ct te acc Ic H Q)
    (hRR:∀acc C H' s' m,Inv X pins Ic H' s'->s'.heap.Ns C m->H' C=none->s.heap.objs.size<=C->Q (.ref acc) H'->RR (.ref acc) C (.ok .next) s') :
    wpAny (model X.prog X.w) X.A (newList []) (fun acc s₃=>wpAny (model X.prog X.w) X.A (newFunctionEnv scope X.env.globals (kZ X.env.cells scope.names []) [] X.env.qual none .none (some X.env)) (fun cenv s₄ =>
      codeAny (model X.prog X.w) X.A (.compStart (.ListComp elt [⟨tg,iter,ifs,0⟩] scope pos) 0 (.ref it) acc { cenv with scope:=relabel scope X.env }) (RR acc cenv.locals) s₄) E s₃) E s:=by
  have hf:∀y∈scope.names,y.2=.free->∃c,X.env.cells.lookup y.1=some c:=fun y hy e=>I.ok.has y.1 (hfree y hy e)
  have ag:∀x c,(kZ X.env.cells scope.names []).lookup x=some c->X.env.cells.lookup x=some c:=m8 scope.names [] hf fun x c e=>by simp at e
  have hlt:∀b∈fp,b<s.heap.objs.size:=fun b hb=>by
    obtain⟨o,e,_⟩:=T.obj _ _ st b hb
    exact Ik e
  refine K0 (wpAny_newFunctionEnv hcell (by intro y hy;simp at hy) (fun h₁ hns₁ hsb₁=>?_) hkind)
  dsimp only at hns₁ hsb₁ ⊢
  generalize hH2:s.heap.push { cls:=.type "list",dict:=none,data:=.seq ([]:List Value).toArray }=G2 at hns₁ hsb₁ ⊢
  have hC:G2.objs.size=s.heap.objs.size+1:=by rw [<-hH2,IL]
  have hDC:s.heap.objs.size≠G2.objs.size:=by rw [hC];exact Iq (Jk _)
  have hCle:s.heap.objs.size<=G2.objs.size:=by rw [hC];exact Jl _
  have below:∀b,b<s.heap.objs.size->b≠G2.objs.size/\b≠s.heap.objs.size:=fun b hb=>⟨by rw [hC];exact Iq (Jd hb),Iq hb⟩
  have old:∀b o,s.heap.get? b=some o->h₁.get? b=some o:=fun b o e=>hsb₁.extBut b o (below b (Ik e)).1 (Im _ (hH2 ▸ Im _ e))
  have hacc:h₁.get? s.heap.objs.size=some { cls:=.type "list",data:=.seq ([]:List Value).toArray }:=hsb₁.extBut _ _ hDC (Im _ (hH2 ▸ Ip _ rfl))
  have nD:H s.heap.objs.size=none:=I.aW.fresh (Ij _)
  have nC:H G2.objs.size=none:=I.aW.fresh hCle
  obtain⟨W,⟨m0,w0⟩,turn⟩:=h s.heap.objs.size nD
  generalize hXb:ic X scope G2.objs.size (ts++fr) fp s H=Xb
  have Ib:∀tk,Inv Xb [] (nc ts.length js Ic) (upd H s.heap.objs.size (.lst [])) { s with heap:=h₁,toks:=tk }:=by
    intro tk
    subst hXb
    refine⟨Fl I hkind hcell hf hCle hfp hlt,rfl,I.bare,Un.laid old (Ij _) nD,⟨_,hns₁,fun i x v e1 e2 e3=>?_⟩,fun x c e=>?_,?_,fun x c e=>?_,fun p hp=>absurd (show p∈([]:List (Addr×Obj)) from hp) (by simp),I.aW.laid old (Ij _) ⟨by show 0<=sizeLine;decide,[],_,.nil,hacc⟩,?_⟩
    . have hi:ts.length<=i:=by
        refine Nat.le_of_not_lt fun hi=>?_
        unfold nc at e2
        rw [JG (by simpa using hi),List.getElem?_replicate] at e2
        split at e2 <;> cases e2
      have e1':fr[i-ts.length]?=some x:=by
        have e1'':(ts++fr)[i]?=some x:=e1
        rw [Kh hi] at e1''
        exact e1''
      unfold nc at e2
      rw [Kh (by simpa using hi),Ki,Iu] at e2
      cases ej:js[i-ts.length]? with
      | none=>rw [ej] at e2;cases e2
      | some j =>
        rw [ej] at e2
        have e2':Ic.getD j none=some v:=by simpa using e2
        obtain⟨q1,q2,q3⟩:=hfr.get e1' ej
        have e2'':Ic[j]?=some (some v):=by
          rw [List.getD_eq_getElem?_getD] at e2'
          cases ez:Ic[j]? with
          | none=>rw [ez] at e2';cases e2'
          | some z=>rw [ez] at e2';rw [show z=some v from e2']
        obtain⟨m,hn,hl⟩:=I.loc
        obtain⟨u,r,l⟩:=hl j x v q1 e2'' (by
          rcases q2 with q2 | q2
          . exact .inr (.inl q2)
          . exact .inr (.inr q2))
        refine⟨u,r,.inr ⟨m9 q3,?_⟩⟩
        rcases l with ⟨l,_⟩ | ⟨_,c,lc,lv⟩
        . rcases q2 with q2 | q2 <;> (rw [l] at q2;cases q2)
        . obtain⟨c',hc'⟩:=sr (cells:=X.env.cells) scope.names [] (.inl (PySem.mem_of_lookup q3))
          have:=ag x c' hc'
          rw [lc] at this
          cases this
          obtain⟨o,ho,hd⟩:=lv
          exact⟨c,hc',o,old _ _ ho,hd⟩
    . obtain⟨v,o,ho,hd⟩:=I.cell x c (ag x c e)
      exact⟨v,o,old _ _ ho,hd⟩
    . show upd H s.heap.objs.size (.lst []) G2.objs.size=none
      rw [ao hDC.symm];exact nC
    . obtain⟨v,o,ho,hd⟩:=I.cell x c (ag x c e)
      rw [ao (Iq (Ik ho))]
      exact I.fD x c (ag x c e)
    . show (nc ts.length js Ic).length=(ts++fr).length
      unfold nc
      rw [Io,Ki,Ig,Io,hfr.len]
  have fpB:∀{H':Hp},(∀b∈fp,H' b=none)->∀b∈fp,hX Xb [] H' b:=fun {H'} hn b hb=>by
    subst hXb
    obtain⟨h1,h2,h3,h4,h5,h6⟩:=hfp b hb
    refine⟨hn b hb,(below b (hlt b hb)).1,fun z=>?_,.inl hb,fun x c e=>h5 x c (ag x c e),fun p hp=>absurd (show p∈([]:List (Addr×Obj)) from hp) (by simp)⟩
    rcases Ii.mp (I.qu b z) with z | z
    . exact h2 z
    . exact h3 z
  have fin:∀{Ie : St} {H':Hp} {s':Shared},Inv Xb [] Ie H' s'->Q (.ref s.heap.objs.size) H'->RR (.ref s.heap.objs.size) G2.objs.size (.ok .next) s':=fun {Ie H' s'} Jb q=>by
    subst hXb
    obtain⟨m,hn,_⟩:=Jb.loc
    refine hRR _ _ H' s' m (I.F5 (ch:=fp) Jb.os Jb.base Jb.aW Jb.bare fun b hb=>?_) hn Jb.free hCle q
    obtain⟨h1,h2,h3,h4,h5,h6⟩:=hfp b hb
    exact⟨h4,h2,h5,h6⟩
  have loop:∀tk,codeAny (model X.prog X.w) X.A (.compLoop (.ListComp elt [⟨tg,iter,ifs,0⟩] scope pos) 0 (.ref it) (.ref s.heap.objs.size) (compEnvC scope (kZ X.env.cells scope.names []) G2.objs.size X.env))
        (RR (.ref s.heap.objs.size) G2.objs.size) { s with heap:=h₁,toks:=tk }:=by
    intro tk
    refine mP (fun n s'=>∃i ys Ie H',Inv Xb [] Ie H' s'/\tn i s'.heap/\(∀b∈fp,H' b=none)/\W i n ys Ie H') ?_ m0 ⟨0,[],_,_,Ib tk,T.keep _ _ _ st fun b hb o e=>old b o e,fun b hb=>?_,w0⟩
    . rintro n s3 ⟨i,ys,Ie,H3,I3,st3,fr3,w3⟩
      have htg':=htg G2.objs.size fp s H
      have hct':=hct G2.objs.size fp s H
      have hte':=hte G2.objs.size fp s H
      rw [hXb] at htg' hct' hte'
      have eP:Xb.prog=X.prog:=by subst hXb;rfl
      have ew:Xb.w=X.w:=by subst hXb;rfl
      have eK:Xb.K=X.K:=by subst hXb;rfl
      have eA:Xb.A=X.A:=by subst hXb;rfl
      have ec:Xb.calm=true:=by subst hXb;exact hc
      have ee:Xb.env=compEnvC scope (kZ X.env.cells scope.names []) G2.objs.size X.env:=by subst hXb;rfl
      have ex:Xb.xe=fun _ _=>False:=by subst hXb;rfl
      rw [<-eP,<-ew,<-eA,<-ee]
      obtain⟨ha,hl,turn'⟩:=turn i n ys Ie H3 w3
      rcases turn' with ⟨stop,q⟩ | ⟨go,N,hN,step⟩
      . have hd:=T.done Xb eP ew eK ec i [] s3 Ie H3 (fun _ _=>False) I3 (fpB fr3) st3 stop
        rw [<-eP,<-ew] at hd
        refine KW hd (fun r s4 hr4=>?_) fun _ _ z=>z
        obtain⟨hr,I4⟩:=hr4
        subst hr
        exact fin I4 q
      . have hd:=T.item Xb eP ew eK ec i [] s3 Ie H3 (fun _ _=>False) I3 (fpB fr3) st3 go
        rw [<-eP,<-ew] at hd
        refine KW hd (fun r s4 hr4=>?_) fun _ _ z=>z
        obtain⟨u,hr,h4⟩:=hr4
        subst hr
        refine KW h4 (fun _ s5 ⟨x,H5,I5,r5,y5,st5,fr5⟩=>?_) fun _ _ z=>z
        have I5':=I5.pinned (fpB fr5) (T.obj _ _ st5)
        have keepT:∀{σ7:St} {H7:Hp} {s7:Shared},Inv Xb ([]++mW fp s5.heap) σ7 H7 s7->tn (i+1) s7.heap/\∀b∈fp,H7 b=none:=fun {σ7 H7 s7} I7=>by
          refine⟨T.keep _ _ _ st5 fun b hb o e=>(I7.pin (b,o) (IV _ (IV _ (jv hb e)))).1,fun b hb=>?_⟩
          obtain⟨o,e,d⟩:=T.obj _ _ st5 b hb
          exact (I7.pin (b,o) (IV _ (IV _ (jv hb e)))).2.1
        refine KW (htg' _ s5 Ie H5 x u _ I5' r5 (step x H5 y5)) (fun _ s6 ⟨τ6,H6,I6,q6⟩=>?_) (fun _ _ z=>by rw [ex] at z;exact z)
        refine KW (hct' _ s6 τ6 H6 _ I6 q6) (fun ok s7 ⟨H7,I7,q7⟩=>?_) (fun _ _ z=>by rw [ex] at z;exact z)
        cases ok with
        | false =>
          have q7':N ys τ6 H7:=by rw [if_neg (by simp)] at q7;exact q7
          rw [if_neg (by simp)]
          obtain⟨m',hm,w7⟩:=hN _ _ _ q7'
          exact⟨m',hm,i+1,ys,τ6,H7,I7.jG,(keepT I7).1,(keepT I7).2,w7⟩
        | true =>
          rw [if_pos rfl] at q7 ⊢
          refine KW (hte' _ s7 τ6 H7 _ I7 q7) (fun v s8 ⟨y,H8,I8,r8,ha8,n8⟩=>?_) (fun _ _ z=>by rw [ex] at z;exact z)
          refine KW (fB (X:=Xb) _ s8 τ6 H8 (.ref s.heap.objs.size) [y] (.ref s.heap.objs.size) [v] (fun _ H9=>H9=upd H8 s.heap.objs.size (.lst (ys++[y]))) I8 rfl (.cons r8 .nil) ⟨_,ys,y,rfl,rfl,ha8,hl,rfl⟩) (fun _ s9 ⟨_,H9,I9,_,e9⟩=>?_) (fun _ _ z=>by rw [ex] at z;exact z)
          subst e9
          obtain⟨m',hm,w8⟩:=hN _ _ _ n8
          exact⟨m',hm,i+1,_,τ6,_,I9.jG,(keepT I9).1,(keepT I9).2,w8⟩
    . rw [ao (Iq (hlt b hb))]
      exact (hfp b hb).1
  exact codeAny_compStart_list (loop _) (T.self _ 0 _ _ _ (T.keep _ _ _ st fun b hb o e=>old b o e) (loop _))
theorem Inv.zW {pins:List (Addr×Obj)}{Ic : St}{H H':Hp}{s s':Shared}{C:Addr}{h':Heap}(I:Inv X pins Ic H s){σ':St}(I':Inv X pins σ' H' s')(hC:H' C=none)(hle:s.heap.objs.size<=C)(hsb:IT C s'.heap h') :
  Inv X pins σ' H' { s' with heap:=h' }:=by
 obtain⟨h1,h2,h3,h4,h5,h6⟩:=I.kB (H':=H') hle hC
 exact I'.turned (t':=s'.toks) (fun b o hb e=>hsb.extBut b o hb e) hC h2 h4 h5 h6
theorem eY {tg elt iter:Expr}{ifs:List Expr}{scope:Scope}{wi:TI}{g:TG}{ct:TT}{te:TE}(ts fr:List Str)(js:List Nat)
  (hc:X.calm=true) (hi:PI X tg iter wi) (hkind:scope.kind=.function) (hcell:∀y∈scope.names,y.2≠.cell) (hnames:∀y∈scope.names,y.2=.local->scope.names.lookup y.1=some .local)
  (hfree0:∀y∈scope.names,y.2=.free->y.1∈fr) (hfr:iE X scope fr js)
  (htg:∀C fp s₁ H₁,PG (ic X scope C (ts++fr) fp s₁ H₁) tg g) (hct:∀C fp s₁ H₁,zV (ic X scope C (ts++fr) fp s₁ H₁) ifs ct) (hte:∀C fp s₁ H₁,PE (ic X scope C (ts++fr) fp s₁ H₁) elt te)
  (hs:∀x,foldedSetIterable iter X.env x=pure x:=by intro _;rfl):PE X (.ListComp elt [⟨tg,iter,ifs,0⟩] scope pos) (GU ts.length js wi g ct te):=by
 have hfree:∀y∈scope.names,y.2=.free->X.env.kindOf y.1=some .cell\/X.env.kindOf y.1=some .free:=fun y hy e=>hfr.mem (hfree0 y hy e)
 intro pins s Ic H Q I h
 rw [eval_ListComp]
 refine Ly (use:=none) rfl hs (qH fun y hy e=>I.ok.has y.1 (hfree y hy e)) hkind hnames (br (hi pins s Ic H _ I h) fun xv s1 h1=>br h1 fun itv s2 h2=>?_)
 obtain⟨it,fp,tn,J,H2,e,I2,T,st2,f2,hW⟩:=h2
 subst e
 refine xC (RR:=fun acc C=>compPost (model X.prog X.w) X.A X.xe none (EP X pins Ic Q) acc C) hc hkind hcell hfree hfr htg hct hte I2 T st2 f2 hW ?_
 intro acc C H' s' m I' hn hC hle q
 exact⟨m,hn,fun h' hsb=>⟨.ref acc,H',I2.zW I' hC hle hsb,rfl,q⟩⟩
theorem eZ {tg elt iter:Expr}{ifs:List Expr}{scope:Scope}{wi:TI}{g:TG}{ct:TT}{te:TE}{i:Nat}{y:Str}{py spos:Pos}(ts fr:List Str)(js:List Nat)
  (hsw:swapsWith (.ListComp elt [⟨tg,iter,ifs,0⟩] scope pos) (some (.Name y py)) spos.line X.env=pure true) (hN:X.N.Nodup) (hi0:X.N[i]?=some y) (hx:X.env.scope.names.lookup y=some .local)
  (hc:X.calm=true) (hi:PI X tg iter wi) (hkind:scope.kind=.function) (hcell:∀y∈scope.names,y.2≠.cell) (hnames:∀y∈scope.names,y.2=.local->scope.names.lookup y.1=some .local)
  (hfree0:∀y∈scope.names,y.2=.free->y.1∈fr) (hfr:iE X scope fr js)
  (htg:∀C fp s₁ H₁,PG (ic X scope C (ts++fr) fp s₁ H₁) tg g) (hct:∀C fp s₁ H₁,zV (ic X scope C (ts++fr) fp s₁ H₁) ifs ct) (hte:∀C fp s₁ H₁,PE (ic X scope C (ts++fr) fp s₁ H₁) elt te)
  (hs:∀x,foldedSetIterable iter X.env x=pure x:=by intro _;rfl):PS X (.Assign [.Name y py] (.ListComp elt [⟨tg,iter,ifs,0⟩] scope pos) spos) (yy (GU ts.length js wi g ct te) (om i)):=by
 have hfree:∀y∈scope.names,y.2=.free->X.env.kindOf y.1=some .cell\/X.env.kindOf y.1=some .free:=fun y hy e=>hfr.mem (hfree0 y hy e)
 intro pins s Ic H D I h
 rw [exec_Assign_Name_used _ _ _ _ hsw]
 refine KS (K8 (KS ?_))
 show wpAny _ X.A (do let _ <-comprehension (.ListComp elt [⟨tg,iter,ifs,0⟩] scope pos) scope X.env _ (newList []) false (eval iter X.env) (some (assign (.Name y py) X.env))) _ _ s
 refine KS (KW (Ly (use:=some (assign (.Name y py) X.env)) (Q:=fun _ s'=>SP X pins D .next s') rfl hs (qH fun y hy e=>I.ok.has y.1 (hfree y hy e)) hkind hnames
  (br (hi pins s Ic H _ I h) fun xv s1 h1=>br h1 fun itv s2 h2=>?_)) (fun _ s' hq=>KU (KU hq)) fun _ _ e=>e)
 obtain⟨it,fp,tn,J,H2,e,I2,T,st2,f2,hW⟩:=h2
 subst e
 refine xC (Q:=fun v H'=>D.nx (Ic.set i (some v)) H') (RR:=fun acc C=>compPost (model X.prog X.w) X.A X.xe (some (assign (.Name y py) X.env)) (fun _ s'=>SP X pins D .next s') acc C) hc hkind hcell hfree hfr htg hct hte I2 T st2 f2 hW ?_
 intro acc C H' s' m I' hn hC hle q
 show wpAny _ X.A (assign (.Name y py) X.env (.ref acc)) _ _ _
 refine wpAny_assign_Name (tI I' hN hi0 (.inl hx) (v:=.ref acc) rfl (fun s'' I'' hch=>?_) (.inr hx))
 obtain⟨h1,h2,h3,h4,h5,h6⟩:=I2.kB (H':=H') hle hC
 obtain⟨a,hsb,ha⟩:=hch
 refine⟨m,hn.sameBut hsb ?_,fun h' hsb'=>⟨_,H',I2.zW I'' hC hle hsb',q⟩⟩
 rcases ha with ha | ha
 ·rw [ha];exact h2
 ·exact fun z=>h5 y a ha z.symm
end
theorem lg {K:Ih}{a acc:Addr}{xs:List V}{n:Nat}{js:List Nat}{g:TG}{ct:TT}{te:TE}{Ic : St}{H1:Hp}{Q:VK}(Pv:Nat->List V->St->Hp->Prop)(h0:Pv 0 [] (nc n js Ic) (upd H1 acc (.lst [])))
  (hl:∀i ys Ie H,i<=xs.length->Pv i ys Ie H->aN K H a xs/\H acc=some (.lst ys)/\ys.length<sizeLine)
  (hs:∀i x ys Ie H,xs[i]?=some x->Pv i ys Ie H->g x Ie H fun τ1 H4=>ct τ1 H4 fun b H5=>if b=true then te τ1 H5 fun y H6=>H6 acc=some (.lst ys)/\Pv (i+1) (ys++[y]) τ1 (upd H6 acc (.lst (ys++[y]))) else Pv (i+1) ys τ1 H5)
  (hd:∀ys Ie H,Pv xs.length ys Ie H->Q (.ref acc) H) :
  vx (xr K a) n js g ct te acc Ic H1 Q:=by
 refine⟨fun i m ys Ie H=>m=xs.length-i/\i<=xs.length/\Pv i ys Ie H,⟨xs.length,by simp,IF _,h0⟩,?_⟩
 rintro i m ys Ie H ⟨rfl,hi,p⟩
 obtain⟨q,q2,q3⟩:=hl i ys Ie H hi p
 refine⟨q2,q3,?_⟩
 by_cases hlt:i<xs.length
 ·refine .inr ⟨⟨xs,xs[i],q,by simp [hlt]⟩,Pv (i+1),fun ys' τ' H' p'=>⟨xs.length-(i+1),by omega,rfl,hlt,p'⟩,fun x H' y=>?_⟩
  obtain⟨e,y⟩:=y
  subst e
  exact hs i x ys Ie _ (y xs q) p
 ·have e:i=xs.length:=by omega
  subst e
  exact .inl ⟨⟨xs,q,Ij _⟩,hd ys Ie H p⟩
theorem lh {K:Ih}{a acc:Addr}{xs:List V}{n:Nat}{js:List Nat}{g:TG}{ct:TT}{te:TE}{Ic : St}{H1:Hp}{Q:VK}(Pv:Nat->List V->St->Hp->Prop)(h0:Pv 0 [] (nc n js Ic) (upd H1 acc (.lst [])))
  (hl:∀i ys Ie H,i<=xs.length->Pv i ys Ie H->ar K H a xs/\H acc=some (.lst ys)/\ys.length<sizeLine)
  (hs:∀i x ys Ie H,xs[i]?=some x->Pv i ys Ie H->g x Ie H fun τ1 H4=>ct τ1 H4 fun b H5=>if b=true then te τ1 H5 fun y H6=>H6 acc=some (.lst ys)/\Pv (i+1) (ys++[y]) τ1 (upd H6 acc (.lst (ys++[y]))) else Pv (i+1) ys τ1 H5)
  (hd:∀ys Ie H,Pv xs.length ys Ie H->Q (.ref acc) H) :
  vx (xt K a) n js g ct te acc Ic H1 Q:=by
 refine⟨fun i m ys Ie H=>m=xs.length-i/\i<=xs.length/\Pv i ys Ie H,⟨xs.length,by simp,IF _,h0⟩,?_⟩
 rintro i m ys Ie H ⟨rfl,hi,p⟩
 obtain⟨q,q2,q3⟩:=hl i ys Ie H hi p
 refine⟨q2,q3,?_⟩
 by_cases hlt:i<xs.length
 ·refine .inr ⟨⟨xs,xs[i],q,by simp [hlt]⟩,Pv (i+1),fun ys' τ' H' p'=>⟨xs.length-(i+1),by omega,rfl,hlt,p'⟩,fun x H' y=>?_⟩
  obtain⟨e,y⟩:=y
  subst e
  exact hs i x ys Ie _ (y xs q) p
 ·have e:i=xs.length:=by omega
  subst e
  exact .inl ⟨⟨xs,q,Ij _⟩,hd ys Ie H p⟩
theorem iG {lo:Int}{k:Nat}{acc:Addr}{n:Nat}{js:List Nat}{g:TG}{ct:TT}{te:TE}{Ic : St}{H1:Hp}{Q:VK}(Pv:Nat->List V->St->Hp->Prop)(h0:Pv 0 [] (nc n js Ic) (upd H1 acc (.lst [])))
  (hl:∀i ys Ie H,i<=k->Pv i ys Ie H->H acc=some (.lst ys)/\ys.length<sizeLine)
  (hs:∀i ys Ie H,i<k->Pv i ys Ie H->g (.int (lo+i)) Ie H fun τ1 H4=>ct τ1 H4 fun b H5=>if b=true then te τ1 H5 fun y H6=>H6 acc=some (.lst ys)/\Pv (i+1) (ys++[y]) τ1 (upd H6 acc (.lst (ys++[y]))) else Pv (i+1) ys τ1 H5)
  (hd:∀ys Ie H,Pv k ys Ie H->Q (.ref acc) H) :
  vx (vo lo k) n js g ct te acc Ic H1 Q:=by
 refine⟨fun i m ys Ie H=>m=k-i/\i<=k/\Pv i ys Ie H,⟨k,by simp,IF _,h0⟩,?_⟩
 rintro i m ys Ie H ⟨rfl,hi,p⟩
 obtain⟨q2,q3⟩:=hl i ys Ie H hi p
 refine⟨q2,q3,?_⟩
 by_cases hlt:i<k
 ·refine .inr ⟨hlt,Pv (i+1),fun ys' τ' H' p'=>⟨k-(i+1),by omega,rfl,hlt,p'⟩,fun x H' y=>?_⟩
  obtain⟨e,y⟩:=y
  subst e y
  exact hs i ys Ie _ hlt p
 ·have e:i=k:=by omega
  subst e
  exact .inl ⟨Ij _,hd ys Ie H p⟩
section
variable {X:Cx}
end
def Hz (t:TS):TS:=fun D Ic H=>∃M:St->Hp->Prop,t { D with nx:=M } Ic H/\∀σ' H',M σ' H'->D.nx σ' H'
theorem eF {X:Cx}{st:Stmt}{t:TS}(h:PS X st t):PS X st (Hz t):=by
 intro pins s Ic H D I q
 obtain⟨M,q,hM⟩:=q
 refine br (h pins s Ic H _ I q) fun f s' hs=>?_
 cases f with
 | next =>
  obtain⟨σ',H',I',m⟩:=hs
  exact⟨σ',H',I',hM _ _ m⟩
 | brk=>exact hs
 | cont=>exact hs
 | ret u=>exact hs
theorem fY {m:Int}(h0:0<m)(h1:m<1073741824):m.natAbs.log2<9000:=by
 have h:m.natAbs.log2<30:=(Nat.log2_lt (by omega)).mpr (by omega)
 omega
theorem ox {X:Cx}{K:Ih}{es:List Expr}{k:Nat}{t:vm}{n:Nat}{pos:Pos}(hK:X.K=K)(h:PG X (.Tuple es k pos) (Be X.K n t)):PG X (.Tuple es k pos) (Be K n t):=by
 subst hK
 exact h
section
variable {prog:Program}{w:World}{A:Around}{E:Value->Shared->Prop}{s:Shared}
theorem qI {j t:Addr}{n:Nat}{its:Array Value}{x:Value}{Q:Value->Shared->Prop}(hj:s.heap.IsTupleIter j t n)(ht:s.heap.IsTuple t its)(hx:its[n]?=some x)
  (hQ:∀g,g.IsTupleIter j t (n+1)->IT j s.heap g->Q x { s with heap:=g }):wpAny (model prog w) A (Builtin.SmallTypes.nextOf (.ref j)) Q E s:=by
 obtain⟨ob,eo,ec,ed⟩:=id hj
 obtain⟨ot,et,_,k,ek⟩:=ht
 unfold Builtin.SmallTypes.nextOf
 refine KS (wpAny_callSpecial?_slot (name:=Str.ofString "__next__") hj.typeIs F.slot_tuple_iterator_next (KZ F.slot_tuple_iterator_next hj.typeIs F.entry_tuple_iterator_next ?_ (F.args_tuple_iterator_next_1 _)))
 show wpAny _ _ (field (.ref j) 0 >>= _) _ _ s
 refine KS (K1 eo ed (x:=.ref t) rfl ?_)
 show wpAny _ _ (if (Value.ref t == Value.none)=true then _ else _) _ _ s
 refine (if_neg (c:=(Value.ref t == Value.none)=true) IU) ▸ ?_
 show wpAny _ _ (field (.ref j) 1 >>= _) _ _ s
 refine KS (K1 eo ed (x:=.int n 0) rfl (KS (K2 et ek ?_)))
 simp only [hx,JE]
 refine KS (K7 eo ed (by simp) (KU ⟨x,rfl,KU (hQ _ ⟨_,Jz _ eo (Obj.isFreed_of_fields (Obj.data_mapFields ed _)),(Obj.cls_mapFields ..).trans ec,?_⟩ (IT.update ..))⟩))
 rw [Obj.data_mapFields ed];simp [rawInt]
theorem sy {j t:Addr}{n:Nat}{its:Array Value}{Q:Value->Shared->Prop}(ha:A.handled=none)(hj:s.heap.IsTupleIter j t n)(ht:s.heap.IsTuple t its)(hx:its[n]?=none)
    (hE:∀g e,Heap.ExtBut j s.heap g->(∃o,g.get? e=some o/\o.cls=.type "StopIteration")->E (.ref e) { s with heap:=g }):wpAny (model prog w) A (Builtin.SmallTypes.nextOf (.ref j)) Q E s:=by
  obtain⟨ob,eo,ec,ed⟩:=id hj
  obtain⟨ot,et,_,k,ek⟩:=ht
  unfold Builtin.SmallTypes.nextOf
  refine KS (wpAny_callSpecial?_slot (name:=Str.ofString "__next__") hj.typeIs F.slot_tuple_iterator_next (KZ F.slot_tuple_iterator_next hj.typeIs F.entry_tuple_iterator_next ?_ (F.args_tuple_iterator_next_1 _)))
  show wpAny _ _ (field (.ref j) 0 >>= _) _ _ s
  refine KS (K1 eo ed (x:=.ref t) rfl ?_)
  show wpAny _ _ (if (Value.ref t == Value.none)=true then _ else _) _ _ s
  refine (if_neg (c:=(Value.ref t == Value.none)=true) IU) ▸ ?_
  show wpAny _ _ (field (.ref j) 1 >>= _) _ _ s
  refine KS (K1 eo ed (x:=.int n 0) rfl (KS (K2 et ek ?_)))
  simp only [hx,JE]
  refine KS (K5 (KS (K7 eo ed (by simp) ?_)))
  show wpAny _ _ (newExc (.type "StopIteration") [] >>= fun _=>_) _ _ _
  refine KS ?_
  simp only [newTuple,newExc]
  refine KS (K0 (KS (m:=firstArgMember _ _) (wpAny_of_eq (a:=Value.none) (by first | rfl | (simp only [firstArgMember];rfl)) (K0 ?_ (by size_fits)))) (by size_fits))
  simp only [raiseNew]
  refine KS (wpAny_handled (by
    first | rw [show A.in1.handled=none from ha] | rw [ha]
    exact KS (KU (wpAny_throw (hE _ _ (((IT.update ..).extBut.push _).push _) ⟨_,Ip _ rfl,rfl⟩)))))
structure xD (z p q j k a b:Addr):Prop where
 pz:p≠z
 qz:q≠z
 jz:j≠z
 kz:k≠z
 pq:p≠q
 pj:p≠j
 pk:p≠k
 qj:q≠j
 qk:q≠k
 jk:j≠k
 az:a≠z
 aq:a≠q
 aj:a≠j
 ak:a≠k
 bz:b≠z
 bq:b≠q
 bj:b≠j
 bk:b≠k
theorem gW {h g:Heap}{a:Addr}{xs:Array Value}(x:h.IsTuple a xs)(k:∀o,h.get? a=some o->g.get? a=some o):g.IsTuple a xs:=by
 obtain⟨o,e,r⟩:=x
 exact⟨o,k o e,r⟩
theorem DO {z p q j k a b:Addr}{m n:Nat}{xs ys:Array Value}{x y u v:Value}{Q:Value->Shared->Prop}(D:xD z p q j k a b)
  (gz:IsZip s.heap z p q .none) (gp:IsPair s.heap p (.ref j) (.ref k)) (gq:IsPair s.heap q u v)
  (gj:s.heap.IsTupleIter j a m) (gk:s.heap.IsTupleIter k b n) (ga:s.heap.IsTuple a xs) (gb:s.heap.IsTuple b ys) (hx:xs[m]?=some x) (hy:ys[n]?=some y)
  (hQ:∀g,IsZip g z p q (rawInt s.heap.objs.size)->IsPair g q x y->g.IsTupleIter j a (m+1)->g.IsTupleIter k b (n+1)->IsPair g s.heap.objs.size x y->g.objs.size=s.heap.objs.size+1 ->
   (∀c o,c≠z->c≠q->c≠j->c≠k->s.heap.get? c=some o->g.get? c=some o)->Q (.ref s.heap.objs.size) { s with heap:=g }) :
  wpAny (model prog w) A (Builtin.«zip.__next__» ⟨[.ref z],[]⟩) (fun fin s'=>∃v,fin=.done (.ret v)/\Q v s') E s:=by
 show wpAny _ _ (field (.ref z) 2 >>= fun _=>_) _ _ _
 refine KS (K1 gz rfl (x:=.bool false) rfl ?_)
 show wpAny _ _ (field (.ref z) 3 >>= fun _=>_) _ _ _
 refine KS (K1 gz rfl (x:=.ref p) rfl (KS (K2 gp rfl ?_)))
 show wpAny _ _ (Builtin.SmallTypes.ownedTupleIsFree (.ref z) >>= fun _=>_) _ _ _
 refine KS ?_
 unfold Builtin.SmallTypes.ownedTupleIsFree
 refine KS (K1 gz rfl (x:=.none) rfl (KU ?_))
 simp only [if_true]
 refine KS (K5 (KS (K1 gz rfl (x:=.ref q) rfl (KS (Le gz (by simp) fun g1 gz1 t1=>?_)))))
 replace gz1:IsZip g1 z p q .ellipsis:=gz1
 refine KS ?_
 simp only [JK,Ko,List.zipIdx_cons,List.zipIdx_nil]
 refine KS (KS (Ll ?_))
 show wpAny _ _ (Builtin.SmallTypes.nextOf (.ref j) >>= fun _=>_) _ _ _
 refine KS (qI (gj.extBut t1.extBut D.jz) (gW ga fun o e=>t1.extBut _ _ D.az e) hx fun g2 gj2 t2=>KU ?_)
 have gq2:IsPair g2 q u v:=t2.extBut _ _ D.qj (t1.extBut _ _ D.qz gq)
 refine KS (K2 gq2 rfl (KS (Lw gq2 fun g3 gq3 t3=>?_)))
 replace gq3:IsPair g3 q x v:=gq3
 refine KS (wpAny_letGo (KU (KS (KS (Ll ?_)))))
 show wpAny _ _ (Builtin.SmallTypes.nextOf (.ref k) >>= fun _=>_) _ _ _
 refine KS (qI (((gk.extBut t1.extBut D.kz).extBut t2.extBut D.jk.symm).extBut t3.extBut D.qk.symm) (gW gb fun o e=>t3.extBut _ _ D.bq (t2.extBut _ _ D.bj (t1.extBut _ _ D.bz e))) hy fun g4 gk4 t4=>KU ?_)
 have gq4:IsPair g4 q x v:=t4.extBut _ _ D.qk gq3
 refine KS (K2 gq4 rfl (KS (Lw gq4 fun g5 gq5 t5=>?_)))
 replace gq5:IsPair g5 q x y:=gq5
 refine KS (wpAny_letGo (KU (KU (KS (K2 gq5 rfl (KS (wpAny_newTuple ?_)))))))
 have ez:g5.objs.size=s.heap.objs.size:=by rw [t5.1,t4.1,t3.1,t2.1,t1.1]
 have gz5:IsZip g5 z p q .ellipsis:=t5.extBut _ _ D.qz.symm (t4.extBut _ _ D.kz.symm (t3.extBut _ _ D.qz.symm (t2.extBut _ _ D.jz.symm gz1)))
 have k5:∀c o,c≠z->c≠q->c≠j->c≠k->s.heap.get? c=some o->g5.get? c=some o:=fun c o c1 c2 c3 c4 e=>t5.extBut _ _ c2 (t4.extBut _ _ c4 (t3.extBut _ _ c2 (t2.extBut _ _ c3 (t1.extBut _ _ c1 e))))
 have gj5:g5.IsTupleIter j a (m+1):=((gj2.extBut t3.extBut D.qj.symm).extBut t4.extBut D.jk).extBut t5.extBut D.qj.symm
 have gk5:g5.IsTupleIter k b (n+1):=gk4.extBut t5.extBut D.qk.symm
 have lz:z<g5.objs.size:=Ik gz5
 show wpAny _ _ (Builtin.SmallTypes.ownedTupleHandOut (.ref z) (.ref g5.objs.size) >>= fun _=>_) _ _ _
 refine KS ?_
 unfold Builtin.SmallTypes.ownedTupleHandOut
 have gz6:IsZip (g5.push { cls:=.type "tuple",data:=.seq #[x,y] }) z p q .ellipsis:=Im _ gz5
 refine KS (Le gz6 (by simp) fun g7 gz7 t7=>?_)
 replace gz7:IsZip g7 z p q (rawInt g5.objs.size):=gz7
 refine Le gz7 (by simp) fun g8 gz8 t8=>?_
 replace gz8:IsZip g8 z p q (rawInt g5.objs.size):=gz8
 have up:∀c o,c≠z->g5.get? c=some o->g8.get? c=some o:=fun c o c1 e=>t8.extBut _ _ c1 (t7.extBut _ _ c1 (Im _ e))
 have gT:IsPair g8 g5.objs.size x y:=t8.extBut _ _ (Ji lz) (t7.extBut _ _ (Ji lz) (Ip _ rfl))
 have e8:g8.objs.size=g5.objs.size+1:=by rw [t8.1,t7.1,IL]
 rw [ez] at gz8 gT e8
 refine KU ⟨_,rfl,?_⟩
 show Q (.ref g5.objs.size) _
 rw [ez]
 refine hQ g8 gz8 (up _ _ D.qz gq5) ?_ ?_ gT e8 fun c o c1 c2 c3 c4 e=>up c o c1 (k5 c o c1 c2 c3 c4 e)
 ·obtain⟨o,e,r⟩:=gj5
  exact⟨o,up _ _ D.jz e,r⟩
 ·obtain⟨o,e,r⟩:=gk5
  exact⟨o,up _ _ D.kz e,r⟩
theorem Fn {z p q j k a b:Addr}{m n:Nat}{xs ys:Array Value}{u v:Value}{Q:Fin->Shared->Prop}(ha:A.handled=none)(D:xD z p q j k a b)
  (gz:IsZip s.heap z p q .none) (gp:IsPair s.heap p (.ref j) (.ref k)) (gq:IsPair s.heap q u v)
  (gj:s.heap.IsTupleIter j a m) (gk:s.heap.IsTupleIter k b n) (ga:s.heap.IsTuple a xs) (gb:s.heap.IsTuple b ys) (hend:xs[m]?=none\/ys[n]?=none)
  (hE:∀g e,(∀c o,c≠z->c≠q->c≠j->c≠k->s.heap.get? c=some o->g.get? c=some o)->(∃o,g.get? e=some o/\o.cls=.type "StopIteration")->E (.ref e) { s with heap:=g }) :
  wpAny (model prog w) A (Builtin.«zip.__next__» ⟨[.ref z],[]⟩) Q E s:=by
 show wpAny _ _ (field (.ref z) 2 >>= fun _=>_) _ _ _
 refine KS (K1 gz rfl (x:=.bool false) rfl ?_)
 show wpAny _ _ (field (.ref z) 3 >>= fun _=>_) _ _ _
 refine KS (K1 gz rfl (x:=.ref p) rfl (KS (K2 gp rfl ?_)))
 show wpAny _ _ (Builtin.SmallTypes.ownedTupleIsFree (.ref z) >>= fun _=>_) _ _ _
 refine KS ?_
 unfold Builtin.SmallTypes.ownedTupleIsFree
 refine KS (K1 gz rfl (x:=.none) rfl (KU ?_))
 simp only [if_true]
 refine KS (K5 (KS (K1 gz rfl (x:=.ref q) rfl (KS (Le gz (by simp) fun g1 gz1 t1=>?_)))))
 replace gz1:IsZip g1 z p q .ellipsis:=gz1
 refine KS ?_
 simp only [JK,Ko,List.zipIdx_cons,List.zipIdx_nil]
 refine KS (KS (Ll ?_))
 show wpAny _ _ (Builtin.SmallTypes.nextOf (.ref j) >>= fun _=>_) _ _ _
 cases hx:xs[m]? with
 | none =>
  refine KS (sy ha (gj.extBut t1.extBut D.jz) (gW ga fun o e=>t1.extBut _ _ D.az e) hx fun g2 e t2 he=>?_)
  obtain⟨oe,eoe,ce⟩:=he
  have gz2:IsZip g2 z p q .ellipsis:=t2 _ _ D.jz.symm gz1
  have ne:e≠z:=fun x=>by subst x;rw [gz2] at eoe;cases eoe;simp at ce
  exact Le gz2 (by simp) fun g3 _ t3=>hE g3 e (fun c o c1 _ c3 _ x=>t3.extBut _ _ c1 (t2 _ _ c3 (t1.extBut _ _ c1 x))) ⟨oe,t3.extBut _ _ ne eoe,ce⟩
 | some x =>
  have hy:ys[n]?=none:=hend.elim (fun h=>by rw [hx] at h;cases h) id
  refine KS (qI (gj.extBut t1.extBut D.jz) (gW ga fun o e=>t1.extBut _ _ D.az e) hx fun g2 gj2 t2=>KU ?_)
  have gq2:IsPair g2 q u v:=t2.extBut _ _ D.qj (t1.extBut _ _ D.qz gq)
  refine KS (K2 gq2 rfl (KS (Lw gq2 fun g3 gq3 t3=>?_)))
  refine KS (wpAny_letGo (KU (KS (KS (Ll ?_)))))
  show wpAny _ _ (Builtin.SmallTypes.nextOf (.ref k) >>= fun _=>_) _ _ _
  refine KS (sy ha (((gk.extBut t1.extBut D.kz).extBut t2.extBut D.jk.symm).extBut t3.extBut D.qk.symm) (gW gb fun o e=>t3.extBut _ _ D.bq (t2.extBut _ _ D.bj (t1.extBut _ _ D.bz e))) hy fun g4 e t4 he=>?_)
  obtain⟨oe,eoe,ce⟩:=he
  have gz4:IsZip g4 z p q .ellipsis:=t4 _ _ D.kz.symm (t3.extBut _ _ D.qz.symm (t2.extBut _ _ D.jz.symm gz1))
  have ne:e≠z:=fun x=>by subst x;rw [gz4] at eoe;cases eoe;simp at ce
  exact Le gz4 (by simp) fun g5 _ t5=>hE g5 e (fun c o c1 c2 c3 c4 x=>t5.extBut _ _ c1 (t4 _ _ c4 (t3.extBut _ _ c2 (t2.extBut _ _ c3 (t1.extBut _ _ c1 x))))) ⟨oe,t5.extBut _ _ ne eoe,ce⟩
theorem DP {z p q j k a b:Addr}{m n:Nat}{xs ys:Array Value}{x y u v:Value}{Q:Option Value->Shared->Prop}(D:xD z p q j k a b)
  (gz:IsZip s.heap z p q .none) (gp:IsPair s.heap p (.ref j) (.ref k)) (gq:IsPair s.heap q u v)
  (gj:s.heap.IsTupleIter j a m) (gk:s.heap.IsTupleIter k b n) (ga:s.heap.IsTuple a xs) (gb:s.heap.IsTuple b ys) (hx:xs[m]?=some x) (hy:ys[n]?=some y)
  (hQ:∀g,IsZip g z p q (rawInt s.heap.objs.size)->IsPair g q x y->g.IsTupleIter j a (m+1)->g.IsTupleIter k b (n+1)->IsPair g s.heap.objs.size x y->g.objs.size=s.heap.objs.size+1 ->
   (∀c o,c≠z->c≠q->c≠j->c≠k->s.heap.get? c=some o->g.get? c=some o)->Q (some (.ref s.heap.objs.size)) { s with heap:=g }) :
  wpAny (model prog w) A (pyNext (.ref z)) Q E s:=by
 have ty:s.TypeIs (.ref z) "zip" := ⟨_,gz,rfl⟩
 unfold pyNext
 exact KS (Lc (wpAny_callSpecial?_slot (name:=Str.ofString "__next__") ty F.slot_zip_next (KZ F.slot_zip_next ty F.entry_zip_next
   (DO D gz gp gq gj gk ga gb hx hy fun g a1 a2 a3 a4 a5 a6 a7=>KU (hQ g a1 a2 a3 a4 a5 a6 a7)) (F.args_zip_next_1 _))))
theorem DQ {z p q j k a b:Addr}{m n:Nat}{xs ys:Array Value}{u v:Value}{Q:Option Value->Shared->Prop}(ha:A.handled=none)(D:xD z p q j k a b)
  (gz:IsZip s.heap z p q .none) (gp:IsPair s.heap p (.ref j) (.ref k)) (gq:IsPair s.heap q u v)
  (gj:s.heap.IsTupleIter j a m) (gk:s.heap.IsTupleIter k b n) (ga:s.heap.IsTuple a xs) (gb:s.heap.IsTuple b ys) (hend:xs[m]?=none\/ys[n]?=none)
  (hQ:∀g,(∀c o,c≠z->c≠q->c≠j->c≠k->s.heap.get? c=some o->g.get? c=some o)->Q none { s with heap:=g }):wpAny (model prog w) A (pyNext (.ref z)) Q E s:=by
 have ty:s.TypeIs (.ref z) "zip" := ⟨_,gz,rfl⟩
 unfold pyNext
 refine KS (Lc (wpAny_callSpecial?_slot (name:=Str.ofString "__next__") ty F.slot_zip_next (KZ F.slot_zip_next ty F.entry_zip_next
   (Fn ha D gz gp gq gj gk ga gb hend fun g e hk he=>?_) (F.args_zip_next_1 _))))
 obtain⟨o,eo,ec⟩:=he
 exact KS (Lh (T := "StopIteration") (b:=true) ⟨o,eo,ec⟩ isSubtype_stop (KU (hQ _ hk)))
abbrev zX (h:Heap)(a:Addr):Heap:=h.push { cls:=.type "tuple_iterator",data:=.fields #[.ref a,.int 0 0] }
abbrev C6 (h:Heap)(a b:Addr):Heap:=(zX h a).push { cls:=.type "tuple_iterator",data:=.fields #[.ref b,.int 0 0] }
abbrev C7 (h:Heap)(a b:Addr):Heap:=(C6 h a b).push { cls:=.type "tuple",data:=.seq #[.ref h.objs.size,.ref (zX h a).objs.size] }
abbrev C8 (h:Heap)(a b:Addr):Heap:=(C7 h a b).push { cls:=.type "tuple",data:=.seq #[.none,.none] }
abbrev xE (h:Heap)(a b:Addr):Heap:=(C8 h a b).push { cls:=.type "zip",data:=.fields #[.none,.bool false,.bool false,.ref (C6 h a b).objs.size,.ref (C7 h a b).objs.size] }
theorem Fo (a b:Addr) (xs ys:Array Value):Meets (Builtin.«zip.__new__» ⟨[.type "zip",.ref a,.ref b],[]⟩) (fun _ R s=>s.heap.IsTuple a xs/\s.heap.IsTuple b ys /\
   R (.ok (.ret (.ref (C8 s.heap a b).objs.size))) { s with heap:=xE s.heap a b }) :=
 .of_wp fun P w' A' R' s' hh=>by
  obtain⟨hp,g,d,tk,os⟩:=s'
  obtain⟨ga,gb,hh⟩:=hh
  have hsub:=sub_zip
  have la:Heap.IsTuple (Shared.heap ⟨hp,g,d,tk,os⟩) a xs:=ga
  have lb:Heap.IsTuple (Shared.heap ⟨zX hp a,g,d,tk,os⟩) b ys:=gW gb fun o e=>Im _ e
  wp_walk using La la,La lb
  exact⟨_,rfl,hh⟩
theorem DR {a b:Addr}{xs ys:Array Value}{Q:Value->Shared->Prop}(ga:s.heap.IsTuple a xs)(gb:s.heap.IsTuple b ys)
  (h:∀g,IsZip g (s.heap.objs.size+4) (s.heap.objs.size+2) (s.heap.objs.size+3) .none->IsPair g (s.heap.objs.size+2) (.ref s.heap.objs.size) (.ref (s.heap.objs.size+1)) ->
   IsPair g (s.heap.objs.size+3) .none .none->g.IsTupleIter s.heap.objs.size a 0->g.IsTupleIter (s.heap.objs.size+1) b 0 ->
   (∀c o,s.heap.get? c=some o->g.get? c=some o)->Q (.ref (s.heap.objs.size+4)) { s with heap:=g }) :
  wpAny (model prog w) A (call (.type "zip") [.ref a,.ref b]) Q E s:=by
 refine callType_new F.called_zip (by decide) (F.typeCall_zip_2 _ _) (F.newCall_zip_2 _ _) (fun obj=>F.args_object_init_3 obj _ _) F.entry_zip_new (Fo a b xs ys) ⟨ga,gb,?_⟩
 have z1:(zX s.heap a).objs.size=s.heap.objs.size+1:=IL ..
 have z2:(C6 s.heap a b).objs.size=s.heap.objs.size+2:=by rw [IL,z1]
 have z3:(C7 s.heap a b).objs.size=s.heap.objs.size+3:=by rw [IL,z2]
 have z4:(C8 s.heap a b).objs.size=s.heap.objs.size+4:=by rw [IL,z3]
 have up:∀{h:Heap} {c:Addr} {o o':Obj},h.get? c=some o->(h.push o').get? c=some o:=fun e=>Im _ e
 have q5:(xE s.heap a b).get? (C8 s.heap a b).objs.size=some _:=Ip _ rfl
 have q4:(xE s.heap a b).get? (C7 s.heap a b).objs.size=some _:=up (Ip _ rfl)
 have q3:(xE s.heap a b).get? (C6 s.heap a b).objs.size=some _:=up (up (Ip _ rfl))
 have q2:(xE s.heap a b).get? (zX s.heap a).objs.size=some _:=up (up (up (Ip _ rfl)))
 have q1:(xE s.heap a b).get? s.heap.objs.size=some _:=up (up (up (up (Ip _ rfl))))
 show _/\_
 rw [z2,z3,z4] at q5
 rw [z1,z2] at q3
 rw [z3] at q4
 rw [z1] at q2
 rw [z4]
 exact⟨⟨_,q5,rfl⟩,h _ q5 q3 q4 ⟨_,q1,rfl,rfl⟩ ⟨_,q2,rfl,rfl⟩ fun c o x=>up (up (up (up (up x))))⟩
end
section
variable {X:Cx}{pins:List (Addr×Obj)}{Ic : List (Option V)}{H H':Hp}{s:Shared}{h':Heap}
theorem Inv.iH {t':Nat}{fp:List Addr}(I:Inv X pins Ic H s)(k:∀b o,b∉fp->s.heap.get? b=some o->h'.get? b=some o)(f:∀b∈fp,hX X pins H b):Inv X pins Ic H { s with heap:=h',toks:=t' }:=by
 have nit:∀b u,H b=some u->b∉fp:=fun b u e z=>by rw [(f b z).1] at e;cases e
 refine I.step (g':=s.gens) (d':=s.drawn) (ch:=fp) (fun b hb=>?_) (fun b o _ _ hc e _=>k b o hc e) (fun b o _ _ hc e _=>⟨o.slots,k b o hc e⟩) (fun _ _ _ _ n=>n)
  (fun b o hc e=>⟨o,k b o hc e⟩) (fun _ _ e=>e) (fun _ _ _ e=>e) (fun b ps e=>⟨#[],by rw [e];simp⟩) (fun m hm=>?_) (fun b u e=>?_) I.bare
 ·obtain⟨f0,f1,f2,f3,f4,f5⟩:=f b hb
  exact⟨f3,f1,f4,f5⟩
 ·obtain⟨o,es,ep,ho,r⟩:=hm
  exact⟨o,es,ep,k _ o (fun z=>(f _ z).2.1 rfl) ho,r⟩
 ·refine (I.aW b u e).pG (fun c v hc q=>k c v ?_ q) (fun _ q=>q) fun _ _ q=>q
  rcases hc with z | z
  ·rw [z];exact nit b u e
  ·exact nit c _ z
def C9 (K:Ih)(a b:Addr):It :=
 ⟨fun i H=>∃xs ys x y,ar K H a xs/\ar K H b ys/\xs[i]?=some x/\ys[i]?=some y,
  fun i H v H'=>∃t x y,v=.ref t/\H t=none/\H' = upd H t (.tup [x,y])/\∀xs ys,ar K H a xs->ar K H b ys->xs[i]?=some x/\ys[i]?=some y,
  fun i H=>∃xs ys,ar K H a xs/\ar K H b ys/\(xs.length<=i\/ys.length<=i)⟩
theorem BA {P:Program}{w:World}{K:Ih}{elts:List Expr}{kk:Nat}{pos:Pos}(a b z p q j k:Addr)(D:xD z p q j k a b) :
    Turn P w K (.Tuple elts kk pos) (C9 K a b) [z,p,q,j,k] z (fun i h=>IsZip h z p q .none/\IsPair h p (.ref j) (.ref k)/\(∃u v,IsPair h q u v)/\h.IsTupleIter j a i/\h.IsTupleIter k b i) where
  mem:=by simp
  obj:=fun i h st c hc=>by
    obtain⟨gz,gp,⟨u,v,gq⟩,⟨oj,ej,cj,dj⟩,⟨ok,ek,ck,dk⟩⟩:=st
    simp only [Ii,IY,or_false] at hc
    rcases hc with rfl | rfl | rfl | rfl | rfl
    . exact⟨_,gz,fun v e=>by cases e⟩
    . exact⟨_,gp,fun v e=>by cases e⟩
    . exact⟨_,gq,fun v e=>by cases e⟩
    . exact⟨oj,ej,fun v e=>by rw [dj] at e;cases e⟩
    . exact⟨ok,ek,fun v e=>by rw [dk] at e;cases e⟩
  keep:=fun i h g st kp=>by
    obtain⟨gz,gp,⟨u,v,gq⟩,⟨oj,ej,rj⟩,⟨ok,ek,rk⟩⟩:=st
    exact⟨kp z (by simp) _ gz,kp p (by simp) _ gp,⟨u,v,kp q (by simp) _ gq⟩,⟨oj,kp j (by simp) _ ej,rj⟩,⟨ok,kp k (by simp) _ ek,rk⟩⟩
  item:=by
    intro X hP hw hK hc i pins s Ic H E I hf st hg
    subst hP hw hK
    obtain⟨gz,gp,⟨u,v,gq⟩,gj,gk⟩:=st
    obtain⟨xs,ys,x,y,ha,hb,hx,hy⟩:=hg
    obtain⟨is,ra,pa,_⟩:=I.tuple ha
    obtain⟨js,rb,pb,_⟩:=I.tuple hb
    obtain⟨xv,hxv,rx⟩:=ra.get hx
    obtain⟨yv,hyv,ry⟩:=rb.get hy
    have sz:∀c∈[z,p,q,j,k],c≠s.heap.objs.size:=fun c hc e=>by
      subst e
      simp only [Ii,IY,or_false] at hc
      rcases hc with e | e | e | e | e
      . exact absurd (Ik gz) (by rw [<-e];exact IJ _)
      . exact absurd (Ik gp) (by rw [<-e];exact IJ _)
      . exact absurd (Ik gq) (by rw [<-e];exact IJ _)
      . obtain⟨oj,ej,_⟩:=gj
        exact absurd (Ik ej) (by rw [<-e];exact IJ _)
      . obtain⟨ok,ek,_⟩:=gk
        exact absurd (Ik ek) (by rw [<-e];exact IJ _)
    refine DP D gz gp gq gj gk (show s.heap.IsTuple a is.toArray from pa) (show s.heap.IsTuple b js.toArray from pb) (x:=xv) (y:=yv) (by simpa using hxv) (by simpa using hyv) fun g a1 a2 a3 a4 a5 a6 hk=>?_
    refine⟨.ref s.heap.objs.size,rfl,Lz a1 fun g' gz' sb=>?_⟩
    have fr:=I.aW.fresh (a:=s.heap.objs.size) (Ij _)
    have I1:Inv X pins Ic (upd H s.heap.objs.size (.tup [x,y])) { s with heap:=s.heap.push { cls:=.type "tuple",data:=.seq #[xv,yv] },toks:=s.toks } :=
      I.laid (fun _ _ e=>Im _ e) (Ij _) ⟨by show 2<=sizeLine;decide,[xv,yv],.cons rx (.cons ry .nil),by first | exact IsTup.new _ _ | exact⟨_,Ip _ rfl,rfl,_,rfl,rfl⟩⟩
    have f1:∀c∈[z,p,q,j,k],hX X pins (upd H s.heap.objs.size (.tup [x,y])) c:=fun c hc=>by
      obtain⟨f0,fr'⟩:=hf c hc
      exact⟨by rw [ao (sz c hc)];exact f0,fr'⟩
    have I2:Inv X pins Ic (upd H s.heap.objs.size (.tup [x,y])) { s with heap:=g',toks:=s.toks }:=Inv.iH (s:={ s with heap:=s.heap.push { cls:=.type "tuple",data:=.seq #[xv,yv] },toks:=s.toks }) (fp:=[z,p,q,j,k]) (h':=g') (t':=s.toks) I1 (fun c o hc e=>by
      simp only [Ii,IY,or_false,not_or] at hc
      refine sb.extBut _ _ hc.1 ?_
      rcases KL e with ⟨rfl,rfl⟩ | e
      . exact a5
      . exact hk c o hc.1 hc.2.2.1 hc.2.2.2.1 hc.2.2.2.2 e) f1
    refine⟨.ref s.heap.objs.size,_,I2,rfl,⟨_,x,y,rfl,fr,rfl,fun xs' ys' h1 h2=>?_⟩,⟨gz',sb.extBut _ _ D.pz (hk _ _ D.pz D.pq D.pj D.pk gp),⟨xv,yv,sb.extBut _ _ D.qz a2⟩,a3.extBut sb.extBut D.jz,a4.extBut sb.extBut D.kz⟩,fun c hc=>(f1 c hc).1⟩
    rw [I.ke h1 ha,I.ke h2 hb]
    exact⟨hx,hy⟩
  done:=by
    intro X hP hw hK hc i pins s Ic H E I hf st hg
    subst hP hw hK
    obtain⟨gz,gp,⟨u,v,gq⟩,gj,gk⟩:=st
    obtain⟨xs,ys,ha,hb,hl⟩:=hg
    obtain⟨is,ra,pa,_⟩:=I.tuple ha
    obtain⟨js,rb,pb,_⟩:=I.tuple hb
    have la:=ra.length
    have lb:=rb.length
    have he:is.toArray[i]?=none\/js.toArray[i]?=none:=by
      rcases hl with h | h
      . exact .inl (by simp;omega)
      . exact .inr (by simp;omega)
    exact DQ (I.ok.hd hc) D gz gp gq gj gk (show s.heap.IsTuple a is.toArray from pa) (show s.heap.IsTuple b js.toArray from pb) he fun g hk=>⟨rfl,I.iH (fp:=[z,p,q,j,k]) (t':=s.toks) (fun c o hc e=>by
      simp only [Ii,IY,or_false,not_or] at hc
      exact hk c o hc.1 hc.2.2.1 hc.2.2.2.1 hc.2.2.2.2 e) hf⟩
  self:=fun _ _ _ _ _ st h=>Lm st.1 h
theorem GV {N a b:Nat}(ha:a<N)(hb:b<N):xD (N+4:Nat) (N+2:Nat) (N+3:Nat) N (N+1:Nat) a b :=
 have ne:∀{u v:Nat},u<v->¬(u=v):=fun h e=>by omega
 have ne':∀{u v:Nat},v<u->¬(u=v):=fun h e=>by omega
 ⟨ne (by omega),ne (by omega),ne (by omega),ne (by omega),ne (by omega),ne' (by omega),ne' (by omega),ne' (by omega),ne' (by omega),ne (by omega),ne (by omega),ne (by omega),ne (by omega),ne (by omega),ne (by omega),ne (by omega),ne (by omega),ne (by omega)⟩
theorem zY:bootBuiltins "zip" = some (.type "zip"):=by decide +kernel
inductive DS (K:Ih) (R:(It->Hp->Prop)) (vs:List V) (H1:Hp):Prop
 | mk (a b:_) (_:vs=[.ref a,.ref b]) (_:(∃xs,ar K H1 a xs)) (_:(∃ys,ar K H1 b ys)) (_:R (C9 K a b) H1)
def HA (K:Ih)(ta:TA):TI:=fun Ic H R=>ta Ic H fun vs H1=>DS K R vs H1
theorem zZ {a b:Expr} {ta:TA} {p pos tp:Pos} {elts:List Expr} {kk:Nat} (hg:Gl X "zip") (hm:X.mg "zip" = none) (ha:PA X [a,b] ta) (hs:starEach [a,b] X.env=[(false,eval a X.env),(false,eval b X.env)]:=by rfl) (hs2:starEach [b] X.env=[(false,eval b X.env)]:=by rfl) :
  PI X (.Tuple elts kk tp) (.Call (.Name "zip" p) [a,b] [] pos) (HA X.K ta):=by
 intro pins s Ic H R I h
 refine Call_ (jF I hg hm zY (PyProof.Rows.callWith_type1 (br (ha pos pins s Ic H _ I h) fun us s1 ⟨vs,H1,I1,r1,q1⟩=>?_) (by rw [hs,hs2]) (by rw [hs2];rfl)))
 obtain⟨x,y,e,⟨xs,hx⟩,⟨ys,hy⟩,q⟩:=q1
 subst e
 cases r1 with
 | cons r rr =>
  cases rr with
  | cons r' rr =>
   cases rr
   cases r
   cases r'
   obtain⟨is,rx,px,_⟩:=I1.tuple hx
   obtain⟨js,ry,py,_⟩:=I1.tuple hy
   have lx:x<s1.heap.objs.size:=px.lt
   have ly:y<s1.heap.objs.size:=py.lt
   refine DR (show s1.heap.IsTuple x is.toArray from px) (show s1.heap.IsTuple y js.toArray from py) fun g gz gp gq gj gk up=>?_
   refine Lm gz ?_
   have I2:Inv X pins Ic H1 { s1 with heap:=g }:=I1.kept (t':=s1.toks) up
   refine⟨_,[s1.heap.objs.size+4,s1.heap.objs.size+2,s1.heap.objs.size+3,s1.heap.objs.size,s1.heap.objs.size+1],_,C9 X.K x y,H1,rfl,I2,BA x y _ _ _ _ _ ?_,⟨gz,gp,⟨_,_,gq⟩,gj,gk⟩,fun c hc=>?_,q⟩
   ·exact GV lx ly
   ·have le:s1.heap.objs.size<=c:=by
     simp only [Ii,IY,or_false] at hc
     rcases hc with rfl | rfl | rfl | rfl | rfl
     ·exact JB _ _
     ·exact JB _ _
     ·exact JB _ _
     ·exact Ij _
     ·exact JB _ _
    exact I1.kB le (I1.aW.fresh le)
theorem z5 {K:Ih}{a b acc:Addr}{xs ys:List V}{n:Nat}{js:List Nat}{g:TG}{ct:TT}{te:TE}{Ic : St}{H1:Hp}{Q:VK}(Pv:Nat->List V->St->Hp->Prop)(h0:Pv 0 [] (nc n js Ic) (upd H1 acc (.lst [])))
  (hl:∀i zs Ie H,i<=min xs.length ys.length->Pv i zs Ie H->ar K H a xs/\ar K H b ys/\H acc=some (.lst zs)/\zs.length<sizeLine)
  (hs:∀i x y zs Ie H t,xs[i]?=some x->ys[i]?=some y->H t=none->Pv i zs Ie H->g (.ref t) Ie (upd H t (.tup [x,y])) fun τ1 H4=>ct τ1 H4 fun b H5=>if b=true then te τ1 H5 fun v H6=>H6 acc=some (.lst zs)/\Pv (i+1) (zs++[v]) τ1 (upd H6 acc (.lst (zs++[v]))) else Pv (i+1) zs τ1 H5)
  (hd:∀zs Ie H,Pv (min xs.length ys.length) zs Ie H->Q (.ref acc) H) :
  vx (C9 K a b) n js g ct te acc Ic H1 Q:=by
 refine⟨fun i m zs Ie H=>m=min xs.length ys.length-i/\i<=min xs.length ys.length/\Pv i zs Ie H,⟨min xs.length ys.length,by simp,IF _,h0⟩,?_⟩
 rintro i m zs Ie H ⟨rfl,hi,p⟩
 obtain⟨qa,qb,q2,q3⟩:=hl i zs Ie H hi p
 refine⟨q2,q3,?_⟩
 by_cases hlt:i<min xs.length ys.length
 ·have l1:i<xs.length:=by omega
  have l2:i<ys.length:=by omega
  refine .inr ⟨⟨xs,ys,xs[i],ys[i],qa,qb,by simp [l1],by simp [l2]⟩,Pv (i+1),fun zs' τ' H' p'=>⟨min xs.length ys.length-(i+1),by omega,rfl,hlt,p'⟩,fun v H' y=>?_⟩
  obtain⟨t,x,y,rfl,ht,rfl,h⟩:=y
  obtain⟨h1,h2⟩:=h xs ys qa qb
  exact hs i x y zs Ie H t h1 h2 ht p
 ·have e:i=min xs.length ys.length:=by omega
  subst e
  refine .inl ⟨⟨xs,ys,qa,qb,?_⟩,hd zs Ie H p⟩
  rcases Nat.le_total xs.length ys.length with h | h
  ·exact .inl (by omega)
  ·exact .inr (by omega)
end
section
variable {prog:Program}{w:World}{A:Around}{E:Value->Shared->Prop}{s:Shared}
end
section
variable {X:Cx}
end
mutual
inductive aL (H:Hp):V->PyData->Prop
 | aT:aL H .aT .none
 | bl (b:Bool):aL H (.bl b) (.bool b)
 | int (i:Int):aL H (.int i) (.int i)
 | str (x:Str):aL H (.str x) (.str x)
 | lst {p:Addr} {xs:List V} {ds:List PyData}:H p=some (.lst xs)->aR H xs ds->aL H (.ref p) (.list ds)
 | tup {p:Addr} {xs:List V} {ds:List PyData}:H p=some (.tup xs)->aR H xs ds->aL H (.ref p) (.tuple ds)
inductive aR (H:Hp):List V->List PyData->Prop
 | nil:aR H [] []
 | cons {x:V} {xs:List V} {d:PyData} {ds:List PyData}:aL H x d->aR H xs ds->aR H (x::xs) (d::ds)
end
section
variable {P:Program}{w:World}{H:Hp}{h:Heap}
mutual
theorem aL.reads (ok:en P w H h):∀{x:V} {d:PyData} {v:Value},aL H x d->RelV x v->∃as,Reads h v d as
 | _,_,v,.aT,r=>by
  cases (show v=Value.none from r)
  exact⟨_,.none⟩
 | _,_,v,.bl b,r=>by
  cases (show v=Value.bool b from r)
  exact⟨_,.bool b⟩
 | _,_,v,.int i,r=>by
  obtain⟨t,e⟩:=(show ∃t,v=Value.int i t from r)
  cases e
  exact⟨_,.int i t⟩
 | _,_,v,.str x,r=>by
  obtain⟨t,e⟩:=(show ∃t,v=Value.str x t from r)
  cases e
  exact⟨_,.str x t⟩
 | _,_,v,.lst (p:=p) (xs:=xs) e ds,r=>by
  cases (show v=Value.ref p from r)
  obtain⟨_,its,n,rv,h1⟩:=(show b6 P w H h p (.lst xs) from ok p _ e)
  obtain⟨as,ra⟩:=aR.reads ok ds rv
  exact⟨_,.list (vs:=its.toArray) h1 rfl rfl (by simpa using ra)⟩
 | _,_,v,.tup (p:=p) (xs:=xs) e ds,r=>by
  cases (show v=Value.ref p from r)
  obtain⟨_,its,rv,o,h1,h2,n,h3⟩:=(show b6 P w H h p (.tup xs) from ok p _ e)
  obtain⟨as,ra⟩:=aR.reads ok ds rv
  exact⟨_,.tuple (vs:=its.toArray) h1 h2 h3.1 (by simpa using ra)⟩
theorem aR.reads (ok:en P w H h):∀{xs:List V} {ds:List PyData} {vs:List Value},aR H xs ds->Vals xs vs->∃as,ReadsAll h vs ds as
 | _,_,_,.nil,.nil=>⟨_,.nil⟩
 | _,_,_,.cons r rs,.cons q qs=>by
  obtain⟨as,ra⟩:=aL.reads ok r q
  obtain⟨bs,rb⟩:=aR.reads ok rs qs
  exact⟨_,.cons ra rb⟩
end
end
section
variable {X:Cx}
inductive Fp (neg:Bool) (x:V) (y:V) (H:Hp) (Q:VK):Prop
 | mk (dx dy:_) (_:aL H x dx) (_:aL H y dy) (_:dx.canLay0=true) (_:dy.canLay0=true) (_:min dx.depth dy.depth<=60) (_:Q (.bl (if neg then !PyData.eqv dx dy else PyData.eqv dx dy)) H)
theorem Fq (hu:X.A.units+64<cLine):d5 X (compareOp .Eq) (Fp false):=by
 intro pins s Ic H x y v u Q I rx ry h
 obtain⟨dx,dy,r1,r2,c1,c2,hd,q⟩:=h
 obtain⟨as,ra⟩:=r1.reads I.aW rx
 obtain⟨bs,rb⟩:=r2.reads I.aW ry
 exact PySem.SeqAt.compareEq_reads ra rb c1 c2 (by omega) ⟨.bl _,H,I,rfl,q⟩
theorem vy (hu:X.A.units+64<cLine):d5 X (compareOp .NotEq) (Fp true):=by
 intro pins s Ic H x y v u Q I rx ry h
 obtain⟨dx,dy,r1,r2,c1,c2,hd,q⟩:=h
 obtain⟨as,ra⟩:=r1.reads I.aW rx
 obtain⟨bs,rb⟩:=r2.reads I.aW ry
 exact PySem.SeqAt.neOverData X.prog X.w X.A X.xe s v u dx dy as bs _ ra rb c1 c2 (by omega) ⟨.bl _,H,I,rfl,q⟩
end
def one (c:Nat):Str:=⟨#[c]⟩
theorem vz (rest:List Str):∀a:Array Nat,(rest.foldl (fun acc p=>acc++Str.empty.cps++p.cps) a).toList=a.toList++rest.flatMap (·.cps.toList):=by
 induction rest with
 | nil=>intro a;simp
 | cons x r ih =>
  intro a
  rw [JJ,ih]
  have e:Str.empty.cps = #[]:=rfl
  simp [e]
theorem join_ones (cs:List Nat):(Txt.join Str.empty (cs.map one)).cps.toList=cs:=by
 cases cs with
 | nil=>rfl
 | cons c r =>
  show (List.foldl (fun acc p=>acc++Str.empty.cps++p.cps) (#[c]:Array Nat) (r.map one)).toList=c::r
  rw [vz]
  simp only [List.flatMap_map,one]
  simp
theorem BB:Str.ofString "" = Str.empty:=by decide +kernel
theorem qJ {ys:List Str}:∀{us:List Value},Vals (ys.map V.str) us->StrsAre us ys:=by
 induction ys with
 | nil=>intro us r;cases r;exact .nil
 | cons y ys ih =>
  intro us r
  cases r with
  | cons h t =>
   obtain⟨k,e⟩:=h
   subst e
   exact .cons y k (ih t)
section
variable {X:Cx}
inductive rJoin (K:Ih) (x:V) (vs:List V) (H:Hp) (Q:VK):Prop
 | mk (z:Str) (p:Addr) (ys:List Str) (_:x=.str z) (_:vs=[.ref p]) (_:aN K H p (ys.map V.str)) (_:(ys.map (·.length)).sum+ys.length*z.length<=16777216) (_:Q (.str (Txt.join z ys)) H)
theorem xF:E9 X "str.join" (rJoin X.K):=by
 intro pins s Ic H x vs v us Q I rx rv h
 obtain⟨z,p,ys,rfl,rfl,hS,hz,q⟩:=h
 obtain⟨t,e⟩:=(show ∃t,v=Value.str z t from rx)
 subst e
 obtain⟨u,rfl,ru⟩:=vals1 rv
 cases (show u=Value.ref p from ru)
 obtain⟨its,rv',pl,_⟩:=I.list hS
 exact join_list pl.isList (by simpa using qJ rv') hz fun t' k=>⟨.str _,H,I.tok k,⟨_,rfl⟩,q⟩
end
inductive cN where
 | put (x:Str) (n:Int)
 | copy (x y:Str)
 | add (x:Str) (n:Int)
 | read (x:Str)
 | tell (x:Str)
inductive End where
 | stop
 | go (p:Nat)
 | cm (less:Bool) (x:Str) (n:Int) (p q:Nat)
abbrev Piece:=List cN×End
def wT (b:Bool):Str:=if b=true then "less" else "is"
def cn:cN->PyData
 | .put x n=>.tuple [.str "put",.str x,.int n]
 | .copy x y=>.tuple [.str "copy",.str x,.str y]
 | .add x n=>.tuple [.str "add",.str x,.int n]
 | .read x=>.tuple [.str "read",.str x]
 | .tell x=>.tuple [.str "tell",.str x]
def e6:End->PyData
 | .stop=>.tuple [.str "stop"]
 | .go p=>.tuple [.str "go",.int p]
 | .cm b x n p q=>.tuple [.str (wT b),.str x,.int n,.int p,.int q]
def bO (p:Piece):PyData:=.tuple [.tuple (p.1.map cn),e6 p.2]
def bK (ps:List Piece):PyData:=.tuple (ps.map bO)
structure eG (x:Str):Prop where
 lo:1<=x.length
 hi:x.length<=8
 az:∀c∈x.cps.toList,97<=c/\c<=122
def lS (n:Int):Prop:=-(10 ^ 40)<n/\n<10 ^ 40
def cL (xs:List Str):cN->Prop
 | .put x n=>x∈xs/\lS n
 | .copy x y=>x∈xs/\y∈xs
 | .add x n=>x∈xs/\lS n
 | .read x=>x∈xs
 | .tell x=>x∈xs
def gx (xs:List Str)(count:Nat):End->Prop
 | .stop=>True
 | .go p=>p<count
 | .cm _ x n p q=>x∈xs/\lS n/\p<count/\q<count
structure cI (xs:List Str) (most:Nat) (ps:List Piece):Prop where
 fe:∀p∈ps,p.1.length<=most/\∀d∈p.1,cL xs d
 ends:∀p∈ps,gx xs ps.length p.2
mutual
def b0:PyData->Bool
 | .list _=>false
 | .tuple xs=>bX xs
 | _=>true
def bX:List PyData->Bool
 | []=>true
 | x::xs=>b0 x&&bX xs
end
mutual
theorem aL.av {H H':Hp}(k:∀p xs,H p=some (.tup xs)->H' p=some (.tup xs)):∀{x:V} {d:PyData},aL H x d->b0 d=true->aL H' x d
 | _,_,.aT,_=>.aT
 | _,_,.bl b,_=>.bl b
 | _,_,.int i,_=>.int i
 | _,_,.str x,_=>.str x
 | _,_,.lst _ _,h=>nomatch h
 | _,_,.tup e ds,h=>.tup (k _ _ e) (aR.av k ds h)
theorem aR.av {H H':Hp}(k:∀p xs,H p=some (.tup xs)->H' p=some (.tup xs)):∀{xs:List V} {ds:List PyData},aR H xs ds->bX ds=true->aR H' xs ds
 | _,_,.nil,_=>.nil
 | _,_,.cons r rs,h=>by
  simp only [bX,Ja] at h
  exact .cons (aL.av k r h.1) (aR.av k rs h.2)
end
theorem aL.fix {b:Addr}{H H':Hp}{x:V}{d:PyData}(r:aL H x d)(hb:dM H b)(f:Fix b H H')(n:b0 d=true):aL H' x d :=
 r.av (fun p xs e=>f p _ e (hb.dW e)) n
theorem aL.same {H H':Hp}{x:V}{d:PyData}(r:aL H x d)(f:ae H H')(n:b0 d=true):aL H' x d :=
 r.av (fun p xs e=>f p _ e) n
theorem aR.fix {b:Addr}{H H':Hp}{xs:List V}{ds:List PyData}(r:aR H xs ds)(hb:dM H b)(f:Fix b H H')(n:bX ds=true):aR H' xs ds :=
 r.av (fun p xs e=>f p _ e (hb.dW e)) n
theorem aR.same {H H':Hp}{xs:List V}{ds:List PyData}(r:aR H xs ds)(f:ae H H')(n:bX ds=true):aR H' xs ds :=
 r.av (fun p xs e=>f p _ e) n
theorem aR.put {H:Hp}{xs ys:List V}{ds:List PyData}{l:Addr}{o:HO}(r:aR H xs ds)(hl:H l=some (.lst ys))(n:bX ds=true):aR (upd H l o) xs ds :=
 r.av (fun p zs e=>by rw [ao (bJ e hl (by intro z;cases z))];exact e) n
theorem aR.app {H:Hp}{x:V}{d:PyData}:∀{xs:List V} {ds:List PyData},aR H xs ds->aL H x d->aR H (xs++[x]) (ds++[d])
 | _,_,.nil,q=>.cons q .nil
 | _,_,.cons r rs,q=>.cons r (aR.app rs q)
theorem aR.len {H:Hp}:∀{xs:List V} {ds:List PyData},aR H xs ds->xs.length=ds.length
 | _,_,.nil=>rfl
 | _,_,.cons _ rs=>by simp [aR.len rs]
theorem gK (d:cN):b0 (cn d)=true:=by cases d <;> rfl
theorem ie (e:End):b0 (e6 e)=true:=by cases e <;> rfl
theorem aP:∀ds:List cN,bX (ds.map cn)=true
 | []=>rfl
 | d::ds=>by show (b0 (cn d)&&bX (ds.map cn))=true;rw [gK,aP ds];rfl
theorem cw (p:Piece):b0 (bO p)=true:=by
 show (bX (p.1.map cn)&&(b0 (e6 p.2)&&true))=true
 rw [aP,ie];rfl
theorem bG:∀ps:List Piece,bX (ps.map bO)=true
 | []=>rfl
 | p::ps=>by show (b0 (bO p)&&bX (ps.map bO))=true;rw [cw,bG ps];rfl
theorem aw (ps:List Piece):b0 (bK ps)=true:=bG ps
structure fN (H:Hp) (b l:Addr) (xs:List Str):Prop where
 at_:H l=some (.lst (xs.map V.str))
 ne:l≠b
 lT:xs≠[]
 bS:xs.length<=1000
 ok:∀x∈xs,eG x
theorem fN.fix {H H':Hp}{b l:Addr}{xs:List Str}(h:fN H b l xs)(f:Fix b H H'):fN H' b l xs:=⟨f l _ h.at_ h.ne,h.ne,h.lT,h.bS,h.ok⟩
theorem fN.pos {H:Hp}{b l:Addr}{xs:List Str}(h:fN H b l xs):0<((xs.map V.str).length:Int)/\((xs.map V.str).length:Int)<1073741824:=by
 have h1:=h.lT
 have h2:=h.bS
 have h3:0<xs.length:=by cases xs with | nil=>exact absurd rfl h1 | cons _ _=>simp
 rw [Ig]
 omega
inductive xG  (vs:List V) (H:Hp) (Q:VK) (_:XK):Prop
 | mk (b:Addr) (_:vs=[.ref b]) (_:dM H b) (_:∀l xs H',fN H' b l xs->xs.length<=4->dM H' b->Fix b H H'->Q (.ref l) H')
inductive lU  (vs:List V) (H:Hp) (Q:VK) (_:XK):Prop
 | mk (b:Addr) (_:vs=[.ref b]) (_:dM H b) (_:∀n H',lS n->dM H' b->Fix b H H'->Q (.int n) H')
inductive vA  (vs:List V) (H:Hp) (Q:VK) (_:XK):Prop
 | mk (b l:Addr) (xs:List Str) (_:vs=[.ref b,.ref l]) (_:dM H b) (_:fN H b l xs) (_:∀v d H',aL H' v (cn d)->cL xs d->dM H' b->Fix b H H'->Q v H')
inductive vC  (vs:List V) (H:Hp) (Q:VK) (_:XK):Prop
 | mk (b l:Addr) (xs:List Str) (c:Nat) (_:vs=[.ref b,.ref l,.int c]) (_:dM H b) (_:fN H b l xs) (_:0<c) (_:c<1073741824) (_:∀v e H',aL H' v (e6 e)->gx xs c e->dM H' b->Fix b H H'->Q v H')
inductive z6  (vs:List V) (H:Hp) (Q:VK) (_:XK):Prop
 | mk (b:Addr) (c m:Nat) (_:vs=[.ref b,.int c,.int m]) (_:dM H b) (_:0<c) (_:c<=1000) (_:m<=1000) (_:∀v xs ps H',aL H' v (bK ps)->ps.length=c->cI xs m ps->((∀x∈xs,eG x)/\xs.length<=4)->dM H' b->Fix b H H'->Q v H')
inductive xH  (vs:List V) (H:Hp) (Q:VK) (_:XK):Prop
 | mk (b:Addr) (m:Nat) (_:vs=[.ref b,.int m]) (_:dM H b) (_:0<m) (_:m<=1000) (_:∀(n:Nat) H',0<n->n<=max m 4->dM H' b->Fix b H H'->Q (.int n) H')
def qK:Str := "abcdefghijklmnopqrstuvwxyz"
theorem vD:qK.cps.toList=(IZ 26).map (· + 97):=by decide +kernel
theorem xI:qK.length<=sizeLine:=by decide +kernel
theorem z7 {r:Int}(h0:0<=r)(h1:r<26):∃c,fQ qK.cps.toList r=some c/\97<=c/\c<=122:=by
 have hl:qK.cps.toList.length=26:=by rw [vD];simp
 obtain⟨c,hc,hm⟩:=yN (xs:=qK.cps.toList) h0 (by rw [hl];exact h1)
 refine⟨c,hc,?_⟩
 rw [vD] at hm
 obtain⟨k,hk,rfl⟩:=Iv.mp hm
 have:=Jw.mp hk
 omega
theorem pL {xs:List Str}{r:Int}(h0:0<=r)(h1:r<((xs.map V.str).length:Int)):∃x,fQ (xs.map V.str) r=some (V.str x)/\x∈xs:=by
 obtain⟨v,hv,hm⟩:=yN h0 h1
 obtain⟨x,hx,rfl⟩:=Iv.mp hm
 exact⟨x,hv,hx⟩
theorem iI {Ic : L2.St}{H:Hp}{Q:Bool->Hp->Prop}(h:Q true H):Fm Ic H Q:=h
theorem bx {i:Nat}{v:V}{Ic : L2.St}{H:Hp}{Q:L2.St->Hp->Prop}(h:Q (Ic.set i (some v)) H):om i v Ic H Q:=h
section
variable {κ : Type}[DecidableEq κ]
def b8 (kvs:List (κ×V))(k:κ):Option V:=(kvs.find? fun kv=>decide (kv.1=k)).map (·.2)
def putK (kvs:List (κ×V))(k:κ)(v:V):List (κ×V) :=
 if (kvs.any fun kv=>decide (kv.1=k))=true then kvs.map (fun kv=>if kv.1=k then (kv.1,v) else kv) else kvs++[(k,v)]
def fE (kvs:List (κ×V))(k:κ):List (κ×V):=kvs.filter fun kv=>decide (kv.1≠k)
theorem dD {p:κ×V}{r:List (κ×V)}{k:κ}(e:p.1=k):b8 (p::r) k=some p.2:=by simp [b8,JR,e]
theorem di {p:κ×V}{r:List (κ×V)}{k:κ}(e:¬p.1=k):b8 (p::r) k=b8 r k:=by simp [b8,JR,e]
theorem iJ (k:κ):∀kvs:List (κ×V),(kvs.any fun kv=>decide (kv.1=k))=(b8 kvs k).isSome
 | []=>rfl
 | p::r=>by
  rw [JQ]
  by_cases e:p.1=k
  ·simp only [dD e,decide_eq_true e,Bool.true_or,Option.isSome_some]
  ·rw [di e,decide_eq_false e,Bool.false_or];exact iJ k r
theorem vE (k j:κ)(y:V):∀kvs:List (κ×V),b8 (kvs.map fun kv=>if kv.1=k then (kv.1,y) else kv) j=(b8 kvs j).map fun x=>if j=k then y else x
 | []=>rfl
 | p::r=>by
  have ih:=vE k j y r
  rw [IK]
  by_cases h:p.1=k
  ·rw [if_pos h]
   by_cases e:p.1=j
   ·rw [dD (p:=(p.1,y)) e,dD e,Kp,if_pos (e.symm.trans h)]
   ·rw [di (p:=(p.1,y)) e,di e,ih]
  ·rw [if_neg h]
   by_cases e:p.1=j
   ·rw [dD (p:=p) e,dD e,Kp,if_neg (fun z=>h (e.trans z))]
   ·rw [di (p:=p) e,di e,ih]
theorem tR (k j:κ)(y:V):∀kvs:List (κ×V),b8 kvs k=none->b8 (kvs++[(k,y)]) j=if j=k then some y else b8 kvs j
 | [],_=>by
  by_cases e:k=j
  ·rw [if_pos e.symm];exact dD (p:=(k,y)) e
  ·rw [if_neg (fun z=>e z.symm)];exact di (p:=(k,y)) e
 | p::r,hn=>by
  rw [List.cons_append]
  have hk:¬p.1=k:=fun z=>by rw [dD z] at hn;cases hn
  rw [di hk] at hn
  have ih:=tR k j y r hn
  by_cases e:p.1=j
  ·rw [dD e,dD e,if_neg (fun z=>hk (e.trans z))]
  ·rw [di e,di e,ih]
theorem BC (kvs:List (κ×V))(k j:κ)(y:V):b8 (putK kvs k y) j=if j=k then some y else b8 kvs j:=by
 unfold putK
 by_cases a:(kvs.any fun kv=>decide (kv.1=k))=true
 ·rw [if_pos a,vE]
  rw [iJ] at a
  by_cases e:j=k
  ·obtain⟨x,hx⟩:=Option.isSome_iff_exists.mp a
   rw [if_pos e,e,hx,Kp,if_pos rfl]
  ·rw [if_neg e]
   cases b8 kvs j with
   | none=>rfl
   | some x=>rw [Kp,if_neg e]
 ·rw [if_neg a]
  refine tR k j y kvs ?_
  rw [iJ] at a
  cases q:b8 kvs k with
  | none=>rfl
  | some x=>rw [q] at a;exact (a rfl).elim
theorem o2 (kvs:List (κ×V))(k:κ)(v:V):(putK kvs k v).length<=kvs.length+1:=by
 unfold putK
 split
 ·rw [Ig];omega
 ·rw [Io,I0,Kq];omega
theorem BD {kvs:List (κ×V)}{k:κ}(v:V)(h:b8 kvs k=none):putK kvs k v=kvs++[(k,v)]:=by
 unfold putK
 rw [iJ,h]
 exact if_neg (by decide)
theorem fg.z8 {o:Option V}{u:Option Value}(r:fg o u):o.isSome=u.isSome:=by
 cases o with
 | none=>cases u with
  | none=>rfl
  | some _=>exact (show False from r).elim
 | some _=>cases u with
  | none=>exact (show False from r).elim
  | some _=>rfl
theorem fg.getD {o:Option V}{u:Option Value}{d:V}{d':Value}(r:fg o u)(rd:RelV d d'):RelV (o.getD d) (u.getD d'):=by
 cases o with
 | none=>cases u with
  | none=>exact rd
  | some _=>exact (show False from r).elim
 | some _=>cases u with
  | none=>exact (show False from r).elim
  | some _=>exact r
theorem KV.val {kvs:List (κ×V)}{vs:List (κ×Value)}(r:KV kvs vs)(k:κ):fg (b8 kvs k) (valueAt vs k):=by
 unfold KV at r
 induction r with
 | nil=>exact True.intro
 | @cons p q ps qs h t ih =>
  obtain⟨h1,h2⟩:=h
  by_cases e:p.1=k
  ·have e':q.1=k:=h1.symm.trans e
   have b:valueAt (q::qs) k=some q.2:=by simp [valueAt,JR,e']
   rw [dD e,b];exact h2
  ·have e':¬q.1=k:=fun z=>e (h1.trans z)
   have b:valueAt (q::qs) k=valueAt qs k:=by simp [valueAt,JR,e']
   rw [di e,b];exact ih
theorem KV.any {kvs:List (κ×V)}{vs:List (κ×Value)}(r:KV kvs vs)(k:κ):(kvs.any fun kv=>decide (kv.1=k))=vs.any fun kv=>decide (kv.1=k):=by
 unfold KV at r
 induction r with
 | nil=>rfl
 | cons h t ih=>rw [JQ,JQ,ih,h.1]
theorem KV.BE {kvs:List (κ×V)}{vs:List (κ×Value)}(r:KV kvs vs)(k:κ){y:V}{u:Value}(ry:RelV y u) :
  KV (kvs.map fun kv=>if kv.1=k then (kv.1,y) else kv) (vs.map fun kv=>if kv.1=k then (kv.1,u) else kv):=by
 unfold KV at r ⊢
 induction r with
 | nil=>exact .nil
 | @cons p q ps qs h t ih =>
  rw [IK,IK]
  refine .cons ?_ ih
  obtain⟨h1,h2⟩:=h
  by_cases e:p.1=k
  ·rw [if_pos e,if_pos (h1.symm.trans e)];exact⟨h1,ry⟩
  ·rw [if_neg e,if_neg (fun z=>e (h1.trans z))];exact⟨h1,h2⟩
theorem KV.put {kvs:List (κ×V)}{vs:List (κ×Value)}(r:KV kvs vs)(k:κ){y:V}{u:Value}(ry:RelV y u):KV (putK kvs k y) (stored vs k u):=by
 unfold putK stored
 rw [r.any k]
 by_cases e:(vs.any fun kv=>decide (kv.1=k))=true
 ·rw [if_pos e,if_pos e];exact r.BE k ry
 ·rw [if_neg e,if_neg e];exact Paired.snoc r ⟨rfl,ry⟩
theorem KV.drop {kvs:List (κ×V)}{vs:List (κ×Value)}(r:KV kvs vs)(k:κ):KV (fE kvs k) (without vs k):=by
 unfold KV at r ⊢
 unfold fE without
 induction r with
 | nil=>exact .nil
 | @cons p q ps qs h t ih =>
  obtain⟨h1,h2⟩:=h
  rw [Kr,Kr]
  by_cases e:p.1=k
  ·have a:¬decide (p.1≠k)=true:=by simp [e]
   have b:¬decide (q.1≠k)=true:=by simp [h1.symm.trans e]
   rw [if_neg a,if_neg b];exact ih
  ·have e':¬q.1=k:=fun z=>e (h1.trans z)
   have a:decide (p.1≠k)=true:=by simp [e]
   have b:decide (q.1≠k)=true:=by simp [e']
   rw [if_pos a,if_pos b];exact .cons ⟨h1,h2⟩ ih
theorem KV.keys {kvs:List (κ×V)}{vs:List (κ×Value)}(r:KV kvs vs):kvs.map (·.1)=vs.map (·.1):=by
 unfold KV at r
 induction r with
 | nil=>rfl
 | cons h t ih=>rw [IK,IK,ih,h.1]
theorem KV.length {kvs:List (κ×V)}{vs:List (κ×Value)}(r:KV kvs vs):kvs.length=vs.length:=Paired.length r
theorem BF (kvs:List (κ×V))(k:κ):(fE kvs k).length<=kvs.length:=Jr _ _
end
theorem lV {P:Program}{w:World}{k:Key}{u:Value}(r:RelV (kV k) u):(aU P w).is k u=true:=by
 cases k with
 | inl i=>obtain⟨t,e⟩:=(show ∃t,u=Value.int i t from r);subst e;exact oV P w i t
 | inr x=>obtain⟨t,e⟩:=(show ∃t,u=Value.str x t from r);subst e;exact oW P w x t
theorem tS {P:Program}{w:World}:∀{ks:List Key} {us:List Value},Vals (ks.map kV) us->ItemsAre (aU P w) ks us
 | [],_,r=>by rw [List.map_nil] at r;cases r;exact .nil
 | k::ks,_,r=>by
  rw [IK] at r
  cases r with
  | cons h t=>exact .cons (lV h) (tS t)
abbrev KT (H:Hp):List (List Key×V)->List (List Key×Addr×Value)->Prop:=Paired fun p q=>p.1=q.1/\H q.2.1=some (.tup (p.1.map kV))/\RelV p.2 q.2.2
theorem KT.val {H:Hp}{kvs:List (List Key×V)}{xs:List (List Key×Addr×Value)}(r:KT H kvs xs)(k:List Key):fg (b8 kvs k) ((atKey xs k).map (·.2)):=by
 induction r with
 | nil=>exact True.intro
 | @cons p q ps qs h t ih =>
  obtain⟨h1,_,h2⟩:=h
  by_cases e:p.1=k
  ·have e':q.1=k:=h1.symm.trans e
   have b:atKey (q::qs) k=some q.2:=by simp [atKey,JR,e']
   rw [dD e,b];exact h2
  ·have e':¬q.1=k:=fun z=>e (h1.trans z)
   have b:atKey (q::qs) k=atKey qs k:=by simp [atKey,JR,e']
   rw [di e,b];exact ih
theorem KT.BE {H:Hp}{kvs:List (List Key×V)}{xs:List (List Key×Addr×Value)}(r:KT H kvs xs)(k:List Key){y:V}{u:Value}(ry:RelV y u) :
  KT H (kvs.map fun kv=>if kv.1=k then (kv.1,y) else kv) (xs.map (putAt k u)):=by
 induction r with
 | nil=>exact .nil
 | @cons p q ps qs h t ih =>
  rw [IK,IK]
  refine .cons ?_ ih
  obtain⟨h1,h2,h3⟩:=h
  unfold putAt
  by_cases e:p.1=k
  ·rw [if_pos e,if_pos (h1.symm.trans e)];exact⟨h1,h2,ry⟩
  ·rw [if_neg e,if_neg (fun z=>e (h1.trans z))];exact⟨h1,h2,h3⟩
theorem KT.put {H:Hp}{kvs:List (List Key×V)}{xs:List (List Key×Addr×Value)}(r:KT H kvs xs)(k:List Key){b:Addr}{y:V}{u:Value}(hb:H b=some (.tup (k.map kV)))(ry:RelV y u) :
  KT H (putK kvs k y) (storedH xs k b u):=by
 have e:(kvs.any fun kv=>decide (kv.1=k))=(atKey xs k).isSome:=by
  rw [iJ,(r.val k).z8,Option.isSome_map]
 unfold putK storedH
 rw [e]
 by_cases q:(atKey xs k).isSome=true
 ·rw [if_pos q,if_pos q];exact r.BE k ry
 ·rw [if_neg q,if_neg q];exact Paired.snoc r ⟨rfl,hb,ry⟩
theorem KT.keeps {H H':Hp}{kvs:List (List Key×V)}{xs:List (List Key×Addr×Value)}(r:KT H kvs xs)(ht:∀b ys,H b=some (.tup ys)->H' b=some (.tup ys)):KT H' kvs xs :=
 Paired.A5 r fun _ _ z=>⟨z.1,ht _ _ z.2.1,z.2.2⟩
section
variable {P:Program}{w:World}{H:Hp}{h:Heap}{a:Addr}
theorem Dc {u:HO}(ok:en P w H h)(e:Rd H a u):b6 P w H h a u:=e.ok ok
theorem oy {kvs:List (Key×V)}(ok:en P w H h)(e:Rd H a (.dK kvs)):kvs.length<=sizeLine/\(a == sysModules)=false/\∃vs,KV kvs vs/\h.DictOf (aU P w) a vs :=
 show b6 P w H h a (.dK kvs) from Dc ok e
theorem qL {kvs:List (Key×V)}(ok:en P w H h)(e:H a=some (.dK kvs)):kvs.length<=sizeLine/\(a == sysModules)=false/\∃vs,KV kvs vs/\h.DictOf (aU P w) a vs:=oy ok (.inl e)
theorem qM {ks:List Key}(ok:en P w H h)(e:H a=some (.tup (ks.map kV))):(tupleKind (aU P w)).is h ks a:=by
 obtain⟨_,its,r,o,h1,h2,n,h3⟩:=(show b6 P w H h a (.tup (ks.map kV)) from ok a _ e)
 exact⟨o,its.toArray,n,h1,h2,h3.1,by simpa using tS r⟩
theorem qN {kvs:List (List Key×V)}(ok:en P w H h)(e:Rd H a (.dT kvs)):kvs.length<=sizeLine/\(a == sysModules)=false /\
  ∃xs,KT H kvs xs/\h.DictOfH (tupleKind (aU P w)) a xs:=by
 obtain⟨z,y,xs,r,o,es,ep,h1,h2,h3,h4,h5⟩:=(show b6 P w H h a (.dT kvs) from Dc ok e)
 refine⟨z,y,xs,r,o,es,ep,h1,h2,h3,h4,fun x hx=>?_,h5⟩
 have all:∀{l:List (List Key×V)} {m:List (List Key×Addr×Value)},KT H l m->∀x∈m,(tupleKind (aU P w)).is h x.1 x.2.1:=by
  intro l m q
  induction q with
  | nil=>intro x hx;exact nomatch hx
  | @cons p q ps qs hq t ih =>
   intro x hx
   rcases Ii.mp hx with e | hx
   ·subst e
    exact qM ok (by rw [<-hq.1];exact hq.2.1)
   ·exact ih x hx
 exact all r x hx
theorem Gq {kvs:List (List Key×V)}(ok:en P w H h)(e:H a=some (.dT kvs)):kvs.length<=sizeLine/\(a == sysModules)=false /\
  ∃xs,KT H kvs xs/\h.DictOfH (tupleKind (aU P w)) a xs:=qN ok (.inl e)
end
def eI (H:Hp)(a:Addr)(y:V)(r:Option V):Prop :=
 (∃kvs k,Rd H a (.dK kvs)/\y=kV k/\r=b8 kvs k)\/∃kvs k b,Rd H a (.dT kvs)/\y=.ref b/\H b=some (.tup (k.map kV))/\r=b8 kvs k
def jg (H:Hp)(a:Addr)(y v:V)(H':Hp):Prop :=
 (∃kvs k,H a=some (.dK kvs)/\y=kV k/\kvs.length<sizeLine/\H' = upd H a (.dK (putK kvs k v))) \/
 ∃kvs k b,H a=some (.dT kvs)/\y=.ref b/\H b=some (.tup (k.map kV))/\kvs.length<sizeLine/\H' = upd H a (.dT (putK kvs k v))
theorem eI.k {H:Hp}{a:Addr}{kvs:List (Key×V)}{k:Key}(e:H a=some (.dK kvs)):eI H a (kV k) (b8 kvs k):=.inl ⟨kvs,k,.inl e,rfl,rfl⟩
theorem jg.k {H:Hp}{a:Addr}{kvs:List (Key×V)}{k:Key}{v:V}(e:H a=some (.dK kvs))(hl:kvs.length<sizeLine):jg H a (kV k) v (upd H a (.dK (putK kvs k v))):=.inl ⟨kvs,k,e,rfl,hl,rfl⟩
section
variable {X:Cx}{pins:List (Addr×Obj)}{Ic : St}{H:Hp}{s:Shared}{a:Addr}{y v:V}{u r:Value}{o:Option V}{A:Around}{E:Value->Shared->Prop}
theorem Inv.big (I:Inv X pins Ic H s):sysModules<s.heap.objs.size:=by
 have h:mainGlobals<s.heap.objs.size:=(I.mod.glob.keeps I.bk).lt
 exact Ks (by decide) h
theorem z9 {Q:Value->Shared->Prop}(hu:A.units+1<cLine)(I:Inv X pins Ic H s)(g:eI H a y (some v))(ry:RelV y u)(h:∀w' s',Inv X pins Ic H s'->RelV v w'->Q w' s') :
  wpAny (model X.prog X.w) A (getItem (.ref a) u) Q E s:=by
 rcases g with ⟨kvs,k,e,ey,l⟩ | ⟨kvs,k,b,e,ey,eb,l⟩
 ·subst ey
  obtain⟨z,hd,vs,rel,dd⟩:=oy I.aW e
  obtain⟨w',hw,rw'⟩:=fg.some_of (v:=v) (o:=valueAt vs k) (by rw [l];exact rel.val k)
  exact wpAny_getItem_of (lV ry) dd.mapOf hw (h w' _ (I.tok _) rw')
 ·subst ey
  cases (show u=Value.ref b from ry)
  obtain⟨z,hd,xs,rel,dd⟩:=qN I.aW e
  obtain⟨w',hw,rw'⟩:=fg.some_of (v:=v) (o:=(atKey xs k).map (·.2)) (by rw [l];exact rel.val k)
  obtain⟨p,hp,hp2⟩:=Option.map_eq_some_iff.mp hw
  refine wpAny_getItem_heap (tupleKind_room_in1 hu) (qM I.aW eb) dd hp ?_
  rw [hp2]
  exact h w' _ (I.tok _) rw'
theorem sA {h':Heap}{t':Nat}{ob:HO}(I:Inv X pins Ic H s)(mu:zC (H a))(hs:IT a s.heap h')(he:∃q,h'.get? a=some q)(new:b6 X.prog X.w (upd H a ob) h' a ob) :
  Inv X pins Ic (upd H a ob) { s with heap:=h',toks:=t' } :=
 I.write (x:=a) (e:=a) mu (.inl rfl) (fun b q hb z=>(hs.2 b hb).trans z) he new
theorem ng {P:Program}{w:World}{H':Hp}{h':Heap}{kvs:List (Key×V)}{vs:List (Key×Value)}(z:kvs.length<=sizeLine)(hd:(a == sysModules)=false)(rel:KV kvs vs)(dd:h'.DictOf (aU P w) a vs) :
  b6 P w H' h' a (.dK kvs):=⟨z,hd,vs,rel,dd⟩
theorem Aa {H':Hp}{Q:Unit->Shared->Prop}(hu:A.units+1<cLine)(I:Inv X pins Ic H s)(g:jg H a y v H')(ry:RelV y u)(rv:RelV v r)(h:∀s',Inv X pins Ic H' s'->Q () s') :
  wpAny (model X.prog X.w) A (setItem (.ref a) u r) Q E s:=by
 rcases g with ⟨kvs,k,e,ey,l,eH⟩ | ⟨kvs,k,b,e,ey,eb,l,eH⟩
 ·subst ey eH
  obtain⟨z,hd,vs,rel,dd⟩:=qL I.aW e
  have hz:vs.length<=sizeLine:=by rw [<-rel.length];exact z
  have hl:(putK kvs k v).length<=sizeLine:=by have:=o2 kvs k v;omega
  refine wpAny_setItem_pairs (hsz:=hz) (lV ry) dd fun h' dd' hs=>h _ ?_
  have he:∃q,h'.get? a=some q:=let ⟨q,_,_,hq,_⟩:=dd';⟨q,hq⟩
  exact sA I (by rw [e];exact True.intro) hs he (ng hl hd (rel.put k rv) dd')
 ·subst ey eH
  cases (show u=Value.ref b from ry)
  obtain⟨z,hd,xs,rel,dd⟩:=Gq I.aW e
  have hz:xs.length<=sizeLine:=by rw [<-Paired.length rel];exact z
  have hl:(putK kvs k v).length<=sizeLine:=by have:=o2 kvs k v;omega
  refine wpAny_setItem_heap (hsz:=hz) (tupleKind_room_in1 hu) (qM I.aW eb) dd fun h' dd' hs=>h _ ?_
  obtain⟨q,es,ep,hq,h2,h3,h4,_,h5⟩:=dd'
  refine sA I (by rw [e];exact True.intro) hs ⟨q,hq⟩ ⟨hl,hd,_,(rel.put k eb rv).keeps fun c ys ec=>?_,q,es,ep,hq,h2,h3,h4,h5⟩
  rw [ao (bJ ec e (fun z=>nomatch z))]
  exact ec
end
section
variable {X:Cx}{pins:List (Addr×Obj)}{Ic : St}{H:Hp}{s:Shared}{a:Addr}{kvs:List (Key×V)}{k:Key}{u:Value}{A:Around}{E:Value->Shared->Prop}
theorem Gr {v:V}{more:List Value}{Q:Value->Shared->Prop}(I:Inv X pins Ic H s)(e:H a=some (.dK kvs))(ry:RelV (kV k) u)(l:b8 kvs k=some v)(hm:more=[]\/∃x,more=[x])
  (h:∀w' s',Inv X pins Ic (upd H a (.dK (fE kvs k))) s'->RelV v w'->Q w' s'):wpAny (model X.prog X.w) A (call (.builtin "dict.pop") (.ref a::u::more)) Q E s:=by
 obtain⟨z,hd,vs,rel,dd⟩:=qL I.aW e
 obtain⟨w',hw,rw'⟩:=fg.some_of (v:=v) (o:=valueAt vs k) (by rw [<-l];exact rel.val k)
 have hp:(keyPart u).isSome=true:=by
  cases k with
  | inl i=>obtain⟨t,q⟩:=(show ∃t,u=Value.int i t from ry);subst q;rfl
  | inr x=>obtain⟨t,q⟩:=(show ∃t,u=Value.str x t from ry);subst q;rfl
 have ha:argsOk "dict.pop" ⟨.ref a::u::more,[]⟩:=by
  rcases hm with q | ⟨x,q⟩
  ·subst q;exact PySem.F.args_dict_pop_2 _ _
  ·subst q;exact PySem.F.args_dict_pop_3 _ _ _
 refine call_meetsIn PySem.F.slot_dict_pop dd.typeIs PySem.F.entry_dict_pop ha (meets_dict_pop_there (aU X.prog X.w) a (lV ry) more hm hp)
  ⟨vs,w',dd,by rw [<-rel.length];exact z,hw,fun h' dd' hs=>h w' _ ?_ rw'⟩
 have he:∃q,h'.get? a=some q:=let ⟨q,_,_,hq,_⟩:=dd';⟨q,hq⟩
 exact sA I (by rw [e];exact True.intro) hs he (ng (Ir (BF kvs k) z) hd (rel.drop k) dd')
theorem Fs {r:Value}{Q:Value->Shared->Prop}(I:Inv X pins Ic H s)(e:H a=some (.dK kvs))(ry:RelV (kV k) u)(l:b8 kvs k=none)(h:∀s',Inv X pins Ic H s'->Q r s') :
  wpAny (model X.prog X.w) A (call (.builtin "dict.pop") [.ref a,u,r]) Q E s:=by
 obtain⟨z,hd,vs,rel,dd⟩:=qL I.aW e
 have hn:valueAt vs k=none:=fg.none_of (by rw [<-l];exact rel.val k)
 have hp:(keyPart u).isSome=true:=by
  cases k with
  | inl i=>obtain⟨t,q⟩:=(show ∃t,u=Value.int i t from ry);subst q;rfl
  | inr x=>obtain⟨t,q⟩:=(show ∃t,u=Value.str x t from ry);subst q;rfl
 exact call_meetsIn PySem.F.slot_dict_pop dd.typeIs PySem.F.entry_dict_pop (PySem.F.args_dict_pop_3 _ _ _) (meets_dict_pop_default (aU X.prog X.w) a (lV ry) hd hp r) ⟨vs,dd,hn,h _ (I.tok _)⟩
end
def yO (i:Expr):Prop:=∀ov iv,subscripted i false ov iv=operate [ov,iv] (getItem ov iv)
theorem sC {prog:Program}{w:World}{A:Around}{E:Value->Shared->Prop}{s:Shared}{env:Env}{value slice:Expr}{pos:Pos}{T id:String}{Q:Value->Shared->Prop}
  (hl:typeLookup (.type T) "__getitem__" = pure (some (.builtin id))) (hs:yO slice)
  (h:wpAny (model prog w) A (eval value env) (fun o s₁=>wpAny (model prog w) A (eval slice env) (fun i s₂=>s₂.TypeIs o T/\wpAny (model prog w) A (getItem o i) Q E s₂) E s₁) E s) :
  wpAny (model prog w) A (eval (.Subscript value slice pos) env) Q E s:=by
 refine Subscript_ (KW h (fun o s₁ h₁=>KW h₁ (fun i s₂ h₂=>?_) fun _ _ x=>x) fun _ _ x=>x)
 obtain⟨hT,h₂⟩:=h₂
 unfold subscriptTail
 refine KS ?_
 rw [getitemInPython_of_ne hT.not_modules]
 refine KS (wpAny_specialOf hT hl ?_)
 have fin:wpAny (model prog w) A (subscripted slice false o i) (fun r s₃=>wpAny (model prog w) A (letTemporaryGo value o r >>= fun _=>pure r) Q E s₃) E s₂:=by
  rw [hs o i]
  exact wpAny_operating (KW h₂ (fun r s₃ h₃=>KS (wpAny_letTemporaryGo (KU h₃))) fun _ _ x=>x)
 first
  | exact KU (KS fin)
  | exact KS (KU (KS fin))
  | exact KS fin
theorem wW {X:Cx} {pins:List (Addr×Obj)} {Ic : St} {H:Hp} {s:Shared} {a:Addr} {y:V} {o:Option V} (I:Inv X pins Ic H s) (g:eI H a y o):s.TypeIs (.ref a) "dict" := by
 rcases g with ⟨kvs,k,e,_,_⟩ | ⟨kvs,k,b,e,_,_,_⟩
 ·obtain⟨_,_,vs,_,dd⟩:=oy I.aW e
  exact dd.typeIs
 ·obtain⟨_,_,xs,_,dd⟩:=qN I.aW e
  exact dd.typeIs
inductive BG (Q:VK) (x:V) (y:V) (H2:Hp):Prop
 | mk (a v:_) (_:x=.ref a) (_:eI H2 a y (some v)) (_:Q v H2)
def Gs (td ty:TE):TE:=fun Ic H Q=>td Ic H fun x H1=>ty Ic H1 fun y H2=>BG Q x y H2
def Gu (td ty tv:TE):TS:=fun D Ic H=>tv Ic H fun v H1=>td Ic H1 fun x H2=>ty Ic H2 fun y H3=>∃a H4,x=.ref a/\jg H3 a y v H4/\D.nx Ic H4
section
variable {X:Cx}{o i e value:Expr}{pos pos' tpos:Pos}{td ty tv:TE}
theorem oz (hu:X.A.units+1<cLine)(ho:PE X o td)(hi:PE X i ty)(hs:yO i):PE X (.Subscript o i pos) (Gs td ty):=by
 intro pins s Ic H Q I h
 refine sC PySem.F.slot_dict_getitem.lookup hs (br (ho pins s Ic H _ I h) fun u s1 ⟨x,H1,I1,rx,q1⟩=>br (hi pins s1 Ic H1 _ I1 q1) fun iv s2 ⟨y,H2,I2,ry,a,v,ex,g,q2⟩=>?_)
 subst ex
 obtain rfl:u=Value.ref a:=rx
 exact⟨wW I2 g,z9 hu I2 g ry fun w' s3 I3 rw'=>⟨v,H2,I3,rw',q2⟩⟩
theorem gX (hu:X.A.units+1<cLine)(ho:PE X o td)(hi:PE X i ty)(hv:PE X value tv)(hs:swapsWith value (some (.Subscript o i pos')) pos.line X.env=pure false) :
  PS X (.Assign [.Subscript o i pos'] value pos) (Gu td ty tv):=by
 intro pins s Ic H D I h
 refine wpAny_Assign_Subscript (br (hv pins s Ic H _ I h) fun r s1 ⟨v,H1,I1,rv,q1⟩=>br (ho pins s1 Ic H1 _ I1 q1) fun u s2 ⟨x,H2,I2,rx,q2⟩=>br (hi pins s2 Ic H2 _ I2 q2) fun iv s3 ⟨y,H3,I3,ry,a,H4,ex,g,q3⟩=>?_) hs
 subst ex
 obtain rfl:u=Value.ref a:=rx
 exact Aa hu I3 g ry rv fun s4 I4=>⟨Ic,H4,I4,q3⟩
end
theorem vF {P:Program}{w:World}{H:Hp}(h:Heap)(hb:sysModules<h.objs.size):b6 P w H (h.push { cls:=.type "dict",data:=.dict #[] }) h.objs.size (.dK []) :=
 ⟨IF _,beq_eq_false_iff_ne.mpr (Ne.symm (Iq hb)),[],.nil,Heap.DictOf.new h⟩
def Ft:TE:=fun _ H Q=>∀p,H p=none->Q (.ref p) (upd H p (.dK []))
section
variable {X:Cx}{pos:Pos}
theorem pM:PE X (.Dict [] [] pos) Ft:=fun pins s Ic H Q I h =>
 wpAny_Dict_empty ⟨.ref s.heap.objs.size,_,I.laid (a:=s.heap.objs.size) (o:=.dK []) (t':=s.toks) (fun _ _ q=>Im _ q) (Ij _) (vF s.heap I.big),rfl,h _ (I.aW.fresh (Ij _))⟩
end
def vG:List (TE×TE)->St->Hp->(List (V×V)->Hp->Prop)->Prop
 | [],_,H,Q=>Q [] H
 | (tk,tv)::r,Ic,H,Q=>tk Ic H fun x H1=>tv Ic H1 fun y H2=>vG r Ic H2 fun ps H3=>Q ((x,y)::ps) H3
abbrev VV:List (V×V)->List (Value×Value)->Prop:=Paired fun p q=>RelV p.1 q.1/\RelV p.2 q.2
def Dd (X:Cx)(pos:Pos)(keys:List (Option Expr))(values:List Expr)(trs:List (TE×TE)):Prop :=
 ∀(pins:List (Addr×Obj)) (s:Shared) (Ic : St) (H:Hp) (Q:List (V×V)->Hp->Prop),Inv X pins Ic H s->vG trs Ic H Q ->
  wpAny (model X.prog X.w) X.A (evalPairs (pairTrees keys values X.env pos)) (fun vs s'=>∃ps H',Inv X pins Ic H' s'/\VV ps vs/\Q ps H') X.xe s
theorem DT {X:Cx}{pos:Pos}:Dd X pos [] [] []:=fun pins s Ic H Q I h=>pairTrees_nil_walk ⟨[],H,I,.nil,h⟩
theorem BH {X:Cx}{pos:Pos}{k v:Expr}{ks:List (Option Expr)}{vs:List Expr}{tk tv:TE}{trs:List (TE×TE)}(hk:PE X k tk)(hv:PE X v tv)(hr:Dd X pos ks vs trs) :
  Dd X pos (some k::ks) (v::vs) ((tk,tv)::trs):=fun pins s Ic H Q I h =>
 pairTrees_cons_walk (br (hk pins s Ic H _ I h) fun u s1 ⟨x,H1,I1,rx,q1⟩=>br (hv pins s1 Ic H1 _ I1 q1) fun w2 s2 ⟨y,H2,I2,ry,q2⟩ =>
  br (hr pins s2 Ic H2 _ I2 q2) fun ws s3 ⟨ps,H3,I3,rel,q3⟩=>⟨(x,y)::ps,H3,I3,.cons ⟨rx,ry⟩ rel,q3⟩)
structure M2 (X:Cx) (o:Expr) (m:Str) (apos:Pos) (e f:Expr) (cpos:Pos):Prop where
 base:attributeBase o m X.env (eval o X.env)=eval o X.env
 bS:((backTo cpos (starEach [e,f] X.env)).all (fun x=>!x.1)&&(backToKw cpos (keywordEach [] X.env)).all (fun x=>x.1.isSome)
  && decide (([e,f]:List Expr).length+([]:List Keyword).length+(if ([]:List Keyword).isEmpty then 0 else 1)<30))=true
 line:(apos.endLine == cpos.line)=true
 trees:backTo cpos (starEach [e,f] X.env)=[(false,eval e X.env),(false,eval f X.env)]
def Fu (H:Hp)(a:Addr):Prop:=(∃kvs,Rd H a (.dK kvs))\/∃kvs,Rd H a (.dT kvs)
theorem Ab {X:Cx}{pins:List (Addr×Obj)}{Ic : St}{H:Hp}{s:Shared}{a:Addr}(I:Inv X pins Ic H s)(d:Fu H a) :
  s.TypeIs (.ref a) "dict" /\ (∀b,Value.ref a=.ref b->∃ob,s.heap.get? b=some ob/\ob.dict=none)/\(a == sysModules)=false:=by
 rcases d with ⟨kvs,e⟩ | ⟨kvs,e⟩
 ·obtain⟨_,hd,vs,_,dd⟩:=oy I.aW e
  refine⟨dd.typeIs,fun b q=>?_,hd⟩
  cases q
  obtain⟨ob,_,_,h1,h2,_⟩:=dd
  exact⟨ob,h1,h2.2.1⟩
 ·obtain⟨_,hd,xs,_,dd⟩:=qN I.aW e
  refine⟨dd.typeIs,fun b q=>?_,hd⟩
  cases q
  obtain⟨ob,_,_,h1,h2,_⟩:=dd
  exact⟨ob,h1,h2.2.1⟩
section
variable {X:Cx}{pins:List (Addr×Obj)}{Ic : St}{H:Hp}{s:Shared}{a:Addr}{y d:V}{u r:Value}{o:Option V}{A:Around}{E:Value->Shared->Prop}
theorem Fv {Q:Value->Shared->Prop}(hu:A.units+1<cLine)(I:Inv X pins Ic H s)(g:eI H a y o)(ry:RelV y u)(rd:RelV d r)(h:∀w' s',Inv X pins Ic H s'->RelV (o.getD d) w'->Q w' s') :
  wpAny (model X.prog X.w) A (call (.builtin "dict.get") [.ref a,u,r]) Q E s:=by
 rcases g with ⟨kvs,k,e,ey,l⟩ | ⟨kvs,k,b,e,ey,eb,l⟩
 ·subst ey
  obtain⟨z,hd,vs,rel,dd⟩:=oy I.aW e
  refine call_meetsIn PySem.F.slot_dict_get dd.typeIs PySem.F.entry_dict_get (PySem.F.args_dict_get_3 _ _ _) (meets_dict_get_default (aU X.prog X.w) a (lV ry) hd r) ⟨_,dd.mapOf,h _ _ (I.tok _) ?_⟩
  rw [l]
  exact (rel.val k).getD rd
 ·subst ey
  cases (show u=Value.ref b from ry)
  obtain⟨z,hd,xs,rel,dd⟩:=qN I.aW e
  refine call_meetsIn PySem.F.slot_dict_get dd.typeIs PySem.F.entry_dict_get (PySem.F.args_dict_get_3 _ _ _) (meetsH_dict_get_default (tupleKind (aU X.prog X.w)) a b hd r) ⟨tupleKind_room_in1 hu,k,xs,qM I.aW eb,dd,h _ _ (I.tok _) ?_⟩
  rw [l]
  exact (rel.val k).getD rd
end
inductive Ac (Q:VK) (a:Addr) (y:V) (z:V) (H3:Hp):Prop
 | mk (kvs k:_) (_:H3 a=some (.dK kvs)) (_:y=kV k) (_:(∀v,b8 kvs k=some v->Q v (upd H3 a (.dK (fE kvs k))))) (_:(b8 kvs k=none->Q z H3))
inductive Ad (ty:TE) (tx:TE) (Ic : St) (Q:VK) (x:V) (H1:Hp):Prop
 | mk (a:_) (_:x=.ref a) (_:Fu H1 a) (_:ty Ic H1 fun y H2=>tx Ic H2 fun z H3=>Ac Q a y z H3)
def Fw (td ty tx:TE):TE:=fun Ic H Q=>td Ic H fun x H1=>Ad ty tx Ic Q x H1
section
variable {X:Cx}{o e f:Expr}{apos cpos:Pos}{td ty tx:TE}
theorem BI (ho:PE X o td) (he:PE X e ty) (hf:PE X f tx) (m:M2 X o "pop" apos e f cpos):PE X (.Call (.Attribute o "pop" apos) [e,f] [] cpos) (Fw td ty tx):=by
 intro pins s Ic H Q I h
 refine wpAny_Call_method m.base m.bS m.line PySem.F.plainAttrs_dict PySem.F.slot_dict_pop PySem.F.type_dict_pop (br (ho pins s Ic H _ I h) fun u s1 ⟨x,H1,I1,rx,a,ex,d,q1⟩=>?_)
 subst ex
 obtain rfl:u=Value.ref a:=rx
 obtain⟨t1,t2,_⟩:=Ab I1 d
 refine⟨t1,t2,?_⟩
 rw [m.trees]
 refine Calls.callWith_builtin rfl (Calls.evalArgs_plain (Calls.spliced_cons (br (he pins s1 Ic H1 _ I1 q1) fun iv s2 ⟨y,H2,I2,ry,q2⟩ =>
  Calls.spliced_cons (br (hf pins s2 Ic H2 _ I2 q2) fun fv s3 ⟨z,H3,I3,rz,kvs,k,ea,ey,q3,q4⟩=>Calls.spliced_nil ?_))))
 subst ey
 cases l:b8 kvs k with
 | some v=>exact Gr I3 ea ry l (.inr ⟨fv,rfl⟩) fun w' s4 I4 rw'=>⟨v,_,I4,rw',q3 v l⟩
 | none=>exact Fs I3 ea ry l fun s4 I4=>⟨z,H3,I4,rz,q4 l⟩
end
section
variable {X:Cx}{pins:List (Addr×Obj)}{Ic : St}{H:Hp}{s:Shared}{a:Addr}{kvs:List (Key×V)}{A:Around}{E:Value->Shared->Prop}
end
section
variable {X:Cx}{pins:List (Addr×Obj)}{Ic : St}{H:Hp}{s:Shared}{a:Addr}{y:V}{u:Value}{A:Around}{E:Value->Shared->Prop}
end
section
variable {X:Cx}
end
section
variable {κ : Type}[DecidableEq κ]
theorem DU {kvs:List (κ×V)}{k:κ}{v:V}(h:b8 kvs k=some v):k∈kvs.map (·.1):=by
 have q:(kvs.any fun kv=>decide (kv.1=k))=true:=by
  rw [iJ,h]
  all_goals rfl
 obtain⟨p,hp,e⟩:=List.any_eq_true.mp q
 exact Iv.mpr ⟨p,hp,of_decide_eq_true e⟩
theorem tT {p:κ×V}{r:List (κ×V)}{k:κ}(e:p.1=k):fE (p::r) k=fE r k:=by
 unfold fE
 rw [Kr,if_neg (by simp [e])]
theorem tU {p:κ×V}{r:List (κ×V)}{k:κ}(e:¬p.1=k):fE (p::r) k=p::fE r k:=by
 unfold fE
 rw [Kr,if_pos (by simp [e])]
end
theorem aL.bF {H:Hp}{v:V}{ds:List PyData}(h:aL H v (.tuple ds)):∃p xs,v=.ref p/\H p=some (.tup xs)/\aR H xs ds:=by
 cases h with
 | tup e r=>exact⟨_,_,rfl,e,r⟩
theorem aL.int_inv {H:Hp}{v:V}{i:Int}(h:aL H v (.int i)):v=.int i:=by cases h;rfl
theorem aL.str_inv {H:Hp}{v:V}{x:Str}(h:aL H v (.str x)):v=.str x:=by cases h;rfl
theorem aR.cons_inv {H:Hp}{xs:List V}{d:PyData}{ds:List PyData}(h:aR H xs (d::ds)):∃x r,xs=x::r/\aL H x d/\aR H r ds:=by
 cases h with
 | cons a b=>exact⟨_,_,rfl,a,b⟩
theorem aR.nil_inv {H:Hp}{xs:List V}(h:aR H xs []):xs=[]:=by cases h;rfl
theorem aR.get {H:Hp}:∀{xs:List V} {ds:List PyData} {i:Nat} {d:PyData},aR H xs ds->ds[i]?=some d->∃x,xs[i]?=some x/\aL H x d
 | _,_,_,_,.nil,e=>by simp at e
 | _,_,0,_,.cons r _,e=>by
  simp at e
  subst e
  exact⟨_,rfl,r⟩
 | _,_,i+1,d,.cons _ t,e=>by
  obtain⟨x,h1,h2⟩:=aR.get (i:=i) (d:=d) t (by simpa using e)
  exact⟨x,by simpa using h1,h2⟩
def oA:cN->List V
 | .put x n=>[.str "put",.str x,.int n]
 | .copy x y=>[.str "copy",.str x,.str y]
 | .add x n=>[.str "add",.str x,.int n]
 | .read x=>[.str "read",.str x]
 | .tell x=>[.str "tell",.str x]
def dm:End->List V
 | .stop=>[.str "stop"]
 | .go p=>[.str "go",.int p]
 | .cm b x n p q=>[.str (wT b),.str x,.int n,.int p,.int q]
theorem gY {H:Hp}{v:V}{d:cN}(h:aL H v (cn d)):∃p,v=.ref p/\H p=some (.tup (oA d)):=by
  cases d <;> (
    obtain⟨p,xs,rfl,e,r⟩:=aL.bF h
    obtain⟨x1,r1,rfl,h1,r⟩:=r.cons_inv
    obtain⟨x2,r2,rfl,h2,r⟩:=r.cons_inv
    first
      | (obtain⟨x3,r3,rfl,h3,r⟩:=r.cons_inv
         have z:=r.nil_inv
         subst z
         refine⟨p,rfl,?_⟩
         first
           | rw [e,h1.str_inv,h2.str_inv,h3.int_inv];rfl
           | rw [e,h1.str_inv,h2.str_inv,h3.str_inv];rfl)
      | (have z:=r.nil_inv
         subst z
         refine⟨p,rfl,?_⟩
         rw [e,h1.str_inv,h2.str_inv];rfl))
theorem vH {H:Hp}{v:V}{e:End}(h:aL H v (e6 e)):∃p,v=.ref p/\H p=some (.tup (dm e)):=by
 cases e with
 | stop =>
  obtain⟨p,xs,rfl,e,r⟩:=aL.bF h
  obtain⟨x1,r1,rfl,h1,r⟩:=r.cons_inv
  have z:=r.nil_inv
  subst z
  exact⟨p,rfl,by rw [e,h1.str_inv];rfl⟩
 | go q =>
  obtain⟨p,xs,rfl,e,r⟩:=aL.bF h
  obtain⟨x1,r1,rfl,h1,r⟩:=r.cons_inv
  obtain⟨x2,r2,rfl,h2,r⟩:=r.cons_inv
  have z:=r.nil_inv
  subst z
  exact⟨p,rfl,by rw [e,h1.str_inv,h2.int_inv];rfl⟩
 | cm b x n q q' =>
  obtain⟨p,xs,rfl,e,r⟩:=aL.bF h
  obtain⟨x1,r1,rfl,h1,r⟩:=r.cons_inv
  obtain⟨x2,r2,rfl,h2,r⟩:=r.cons_inv
  obtain⟨x3,r3,rfl,h3,r⟩:=r.cons_inv
  obtain⟨x4,r4,rfl,h4,r⟩:=r.cons_inv
  obtain⟨x5,r5,rfl,h5,r⟩:=r.cons_inv
  have z:=r.nil_inv
  subst z
  exact⟨p,rfl,by rw [e,h1.str_inv,h2.str_inv,h3.int_inv,h4.int_inv,h5.int_inv];rfl⟩
theorem iK {H:Hp}{v:V}{ps:List Piece}{i:Nat}{ds:List cN}{e:End}(h:aL H v (bK ps))(hi:ps[i]?=some (ds,e)) :
  ∃p xs pc da ea vs,v=.ref p/\H p=some (.tup xs)/\xs.length=ps.length/\xs[i]?=some (.ref pc)/\H pc=some (.tup [.ref da,.ref ea])/\H da=some (.tup vs)/\aR H vs (ds.map cn)/\H ea=some (.tup (dm e)):=by
 obtain⟨p,xs,rfl,e1,r⟩:=aL.bF h
 have hl:=r.len
 obtain⟨x,hx,rx⟩:=r.get (i:=i) (d:=bO (ds,e)) (by rw [Iu,hi];rfl)
 obtain⟨pc,ys,rfl,e2,r2⟩:=aL.bF rx
 obtain⟨y1,t1,rfl,q1,r2⟩:=r2.cons_inv
 obtain⟨y2,t2,rfl,q2,r2⟩:=r2.cons_inv
 have z:=r2.nil_inv
 subst z
 obtain⟨da,vs,rfl,e3,r3⟩:=aL.bF q1
 obtain⟨ea,rfl,e4⟩:=vH q2
 exact⟨p,xs,pc,da,ea,vs,rfl,e1,by rw [hl,Ig],hx,e2,e3,r3,e4⟩
theorem yP {n:Nat}(h:n<=1000000):n<sizeLine:=J4 h (by decide)
theorem bB {c:Bool}{A B:Prop}(hc:c=false)(h:B):if c=true then A else B:=by subst hc;exact bw h
theorem cC {c:Bool}{A B:Prop}(hc:c=true)(h:A):if c=true then A else B:=by subst hc;exact bh h
inductive yQ (Q:VK) (a:Addr) (y:V) (z:V) (H3:Hp):Prop
 | mk (o v:_) (_:eI H3 a y o) (_:o.getD z=v) (_:Q v H3)
inductive yR (ty:TE) (tx:TE) (Ic : St) (Q:VK) (x:V) (H1:Hp):Prop
 | mk (a:_) (_:x=.ref a) (_:Fu H1 a) (_:ty Ic H1 fun y H2=>tx Ic H2 fun z H3=>yQ Q a y z H3)
def DV (td ty tx:TE):TE:=fun Ic H Q=>td Ic H fun x H1=>yR ty tx Ic Q x H1
theorem eW {X:Cx} {o e f:Expr} {apos cpos:Pos} {td ty tx:TE} (hu:X.A.units+1<cLine) (ho:PE X o td) (he:PE X e ty) (hf:PE X f tx) (m:M2 X o "get" apos e f cpos):PE X (.Call (.Attribute o "get" apos) [e,f] [] cpos) (DV td ty tx):=by
 intro pins s Ic H Q I h
 refine wpAny_Call_method m.base m.bS m.line PySem.F.plainAttrs_dict PySem.F.slot_dict_get PySem.F.type_dict_get (br (ho pins s Ic H _ I h) fun u s1 ⟨x,H1,I1,rx,a,ex,d,q1⟩=>?_)
 subst ex
 obtain rfl:u=Value.ref a:=rx
 obtain⟨t1,t2,_⟩:=Ab I1 d
 refine⟨t1,t2,?_⟩
 rw [m.trees]
 refine Calls.callWith_builtin rfl (Calls.evalArgs_plain (Calls.spliced_cons (br (he pins s1 Ic H1 _ I1 q1) fun iv s2 ⟨y,H2,I2,ry,q2⟩ =>
  Calls.spliced_cons (br (hf pins s2 Ic H2 _ I2 q2) fun fv s3 ⟨z,H3,I3,rz,ov,v,g,ev,q3⟩=>Calls.spliced_nil ?_))))
 exact Fv hu I3 g ry rz fun w' s4 I4 rw'=>⟨v,H3,I4,by rw [<-ev];exact rw',q3⟩
structure RS where
 Gv:Nat
 place:Nat
 w:Str->Int
 taken:Nat
 told:List Int
 word:Str
 BJ:List Nat
def DW (kvs:List (Key×V))(w:Str->Int):Prop:=∀x:Str,(b8 kvs (Sum.inr x:Key)).getD (.int 0)=.int (w x)
def qO (ps:List Piece):Prop:=∀p∈ps,match p.2 with
 | .stop=>True
 | .go q=>q<ps.length
 | .cm _ _ _ q r=>q<ps.length/\r<ps.length
theorem cI.Fx {xs:List Str}{m:Nat}{ps:List Piece}(h:cI xs m ps):qO ps:=fun p hp=>by
 have:=h.ends p hp
 cases e:p.2 with
 | stop=>exact True.intro
 | go q=>rw [e] at this;exact this
 | cm b x n q r=>rw [e] at this;exact⟨this.2.2.1,this.2.2.2⟩
def vO:Option Int->V
 | none=>.aT
 | some i=>.int i
def o3:Option Int->Option Int->Prop
 | some a,some b=>a<=b
 | _,_=>True
def eQ (n:Int)(lo hi:Option Int):Bool:=(match lo with | none=>true | some a=>decide (a<=n))&&(match hi with | none=>true | some a=>decide (n<=a))
abbrev Rs:=Option (Option Int×Option Int)
def jh (hi:Option Int)(n:Int):Int:=match hi with | none=>n-1 | some h=>if n-1<h then n-1 else h
def ji (lo:Option Int)(n:Int):Int:=match lo with | none=>n | some l=>if n > l then n else l
def gM (lo hi:Option Int)(n:Int):Rs :=
 match lo with | none=>some (none,some (jh hi n)) | some l=>if jh hi n<l then none else some (some l,some (jh hi n))
def iY (lo hi:Option Int)(n:Int):Rs :=
 match hi with | none=>some (some (ji lo n),none) | some h=>if h<ji lo n then none else some (some (ji lo n),some h)
def mH (lo hi:Option Int)(n:Int):Rs:=if eQ n lo hi=true then some (some n,some n) else none
def jS (lo hi:Option Int)(n:Int):Rs:=if lo=some n then (if hi=some n then none else some (some (n+1),hi)) else if hi=some n then some (lo,some (n-1)) else some (lo,hi)
def lW (lo hi:Option Int)(n:Int)(side:Bool):Rs:=if side=true then gM lo hi n else iY lo hi n
def vI (lo hi:Option Int)(n:Int)(side:Bool):Rs:=if side=true then mH lo hi n else jS lo hi n
def dU (w:Str)(lo hi:Option Int)(n:Int)(side:Bool):Rs:=if w = "less" then lW lo hi n side else vI lo hi n side
theorem BK {w:Str}{lo hi:Option Int}{n:Int}(le:o3 lo hi)(h1:dU w lo hi n true=none)(h2:dU w lo hi n false=none):False:=by
 unfold dU at h1 h2
 by_cases hw:w = "less"
 ·rw [if_pos hw] at h1 h2
  simp only [lW,if_true,Ju,if_false] at h1 h2
  unfold gM jh at h1
  unfold iY ji at h2
  cases lo <;> cases hi <;> simp only [reduceCtorEq] at h1 h2
  rename_i l h
  simp only [o3] at le
  by_cases c1:n-1<h
  ·simp only [c1,if_true] at h1
   by_cases c2:n-1<l
   ·by_cases c3:n > l
    ·simp only [c3,if_true] at h2
     split at h2
     ·omega
     ·cases h2
    ·simp only [c3,if_false] at h2
     split at h2
     ·omega
     ·cases h2
   ·rw [if_neg c2] at h1;cases h1
  ·simp only [c1,if_false] at h1
   split at h1
   ·omega
   ·cases h1
 ·rw [if_neg hw] at h1 h2
  simp only [vI,if_true,Ju,if_false] at h1 h2
  unfold jS at h2
  by_cases c1:lo=some n
  ·rw [if_pos c1] at h2
   by_cases c2:hi=some n
   ·subst c1;subst c2
    simp [mH,eQ] at h1
   ·rw [if_neg c2] at h2;cases h2
  ·rw [if_neg c1] at h2
   split at h2 <;> cases h2
def RV (H:Hp)(v:V)(r:Rs):Prop:=match r with
 | none=>v=.aT
 | some (a,b)=>∃p,v=.ref p/\H p=some (.tup [vO a,vO b])
theorem RV.same {H H':Hp}{v:V}{r:Rs}(h:RV H v r)(s:ae H H'):RV H' v r:=by
 cases r with
 | none=>exact h
 | some ab =>
  obtain⟨p,e,h⟩:=h
  exact⟨p,e,s _ _ h⟩
theorem RV.put {H:Hp}{v:V}{r:Rs}{l:Addr}{xs:List V}{o:HO}(h:RV H v r)(hl:H l=some (.lst xs)):RV (upd H l o) v r:=by
 cases r with
 | none=>exact h
 | some ab =>
  obtain⟨p,e,h⟩:=h
  exact⟨p,e,by rw [ao (bJ h hl (by intro z;cases z))];exact h⟩
def dO:Option Int->PyData
 | none=>.none
 | some i=>.int i
theorem Fy {H:Hp}(o:Option Int):aL H (vO o) (dO o):=by
 cases o with
 | none=>exact .aT
 | some i=>exact .int i
theorem ae.put {H H':Hp}{l:Addr}{o:HO}(s:ae H H')(n:H l=none):ae H (upd H' l o):=fun c u e=>by rw [ao (aK e n)];exact s c u e
theorem Ae:decide (V.str "less" = V.str "less")=true:=by decide +kernel
theorem kh {lo:Option Int}{n:Int}:decide (vO lo=V.int n)=decide (lo=some n):=by
 cases lo with
 | none=>rfl
 | some i =>
  by_cases h:i=n
  ·subst h;simp [vO]
  ·have h1:¬(V.int i=V.int n):=fun z=>h (V.int.inj z)
   have h2:¬((some i:Option Int)=some n):=fun z=>h (IA.inj z)
   rw [show vO (some i)=V.int i from rfl,decide_eq_false h1,decide_eq_false h2]
theorem i9 {lo:Option Int}{n:Int}:ET (vO lo) (V.int n)=true:=by cases lo <;> rfl
structure jT (P:Program) (w:World) (K:Ih) (mg:Str->Option Value) (base:Heap) (C:Addr) (m:Str) (k:Nat) (ps:List Str) (sp:Sp):Prop where
 cl:jK K C
 ex:∃f fd,bu P w K mg base bQ k f fd ps sp/\Meth K C m f/\Binds K fd ps []
structure yS (P:Program) (w:World) (K:Ih) (mg:Str->Option Value) (base:Heap) (C:Addr) (x:Str) (k:Nat) (ps:List Str) (sp:Sp):Prop where
 ex:∃f fd,bu P w K mg base bQ k f fd ps sp/\Mk K C f/\mg x=some (.ref C)/\Binds K fd ps []
section
variable {X:Cx}{C:Addr}{m x:Str}{k:Nat}{ps:List Str}{sp:Sp}{oe e:Expr}{es:List Expr}{ta:TE}{t:TA}{p pos apos:Pos}
theorem sD {pl:Sem Bool}(o:jT X.prog X.w X.K X.mg X.base C m k ps sp)(he:PE X oe ta)(hr:cZ k X.A)(ha:PA X (e::es) t)
  (hst:starEach (e::es) X.env=(false,eval e X.env)::starEach es X.env:=by rfl) (hpl:(backTo pos (starEach es X.env)).any (·.1)=false:=by rfl)
  (ht:eval (.Call (.Attribute oe m apos) (e::es) [] pos) X.env=(do
   let ov <-eval oe X.env
   standAt apos.atName
   let (f,first) <-holding [ov] (getMethod ov m pl)
   callWith pos f first (backTo pos (starEach (e::es) X.env)) (backToKw pos (keywordEach [] X.env))):=by rfl) :
  PE X (.Call (.Attribute oe m apos) (e::es) [] pos) (uZ C m sp [] E0 ta t):=by
 obtain⟨f,fd,F,hm,hb⟩:=o.ex
 exact DG he o.cl hm F hr hb .nil u9 ha hst hpl ht
theorem fF {pl:Sem Bool}(o:jT X.prog X.w X.K X.mg X.base C m k ps sp)(he:PE X oe ta)(hr:cZ k X.A)
  (ht:eval (.Call (.Attribute oe m apos) [] [] pos) X.env=(do
   let ov <-eval oe X.env
   standAt apos.atName
   let (f,first) <-holding [ov] (getMethod ov m pl)
   callWith pos f first (backTo pos (starEach [] X.env)) (backToKw pos (keywordEach [] X.env))):=by rfl) :
  PE X (.Call (.Attribute oe m apos) [] [] pos) (uZ C m sp [] E0 ta lR):=by
 obtain⟨f,fd,F,hm,hb⟩:=o.ex
 exact Br he o.cl hm F hr hb .nil u9 ht
theorem xJ (o:yS X.prog X.w X.K X.mg X.base C x k ps sp)(hr:cZ (k+1) X.A)(hg:Gl X x)(ha:PA X (e::es) t)
  (hdb:(x == ("__debug__" : Str))=false:=by decide) (he:starEach (e::es) X.env=(false,eval e X.env)::starEach es X.env:=by rfl)
  (hpl:(backTo pos (starEach es X.env)).any (·.1)=false:=by rfl):PE X (.Call (.Name x p) (e::es) [] pos) (C1 C sp [] E0 t):=by
 obtain⟨f,fd,F,M,hm,hb⟩:=o.ex
 exact DH M F hr hg hm hb .nil u9 ha hdb he hpl
end
theorem oB:bootBuiltins "dict" = some (.type "dict"):=by decide +kernel
theorem pN {k:Str}{v:V}{l:List (Str×V)}:((k,v)::l).lookup k=some v:=by simp [Jm]
theorem eJ {k k':Str}{v:V}{l:List (Str×V)}{o:Option V}(h:¬k=k')(e:l.lookup k=o):((k',v)::l).lookup k=o:=by
 rw [JA,beq_false_of_ne h];exact e
theorem yT {k:Str}{v u:V}{l:List (Str×V)}:cR k v ((k,u)::l)=(k,v)::l:=by simp only [cR,if_true]
theorem fo {k k':Str}{v u:V}{l l':List (Str×V)}(h:¬k' = k)(e:cR k v l=l'):cR k v ((k',u)::l)=(k',u)::l':=by simp only [cR,if_neg h,e]
theorem pO {k:Str}{v:V}:cR k v []=[(k,v)]:=rfl
def HP (a0 a1 a2 a3 a4 a5 a6 a7:V):List (Str×V):=[("pieces",a0),("passed",a1),("place",a2),("worths",a3),("numbers",a4),("taken",a5),("spoken",a6),("over",a7)]
section
variable {a0 a1 a2 a3 a4 a5 a6 a7 z:V}
end
structure dN (C:Addr) (H:Hp) (p pl d nl sl:Addr) (plv:V) (nums:List Int) (S:RS) (m:Nat):Prop where
 ob:∃dx,H p=some (.ins C dx (HP plv (.ref pl) (.int S.place) (.ref d) (.ref nl) (.int S.taken) (.ref sl) (.bl (decide (S.word = "stop")))))
 HQ:H pl=some (.lst (S.BJ.map fun k=>V.int (k:Nat)))
 last:∃xs,S.BJ=xs++[S.Gv]
 dict:∃kvs,H d=some (.dK kvs)/\DW kvs S.w/\kvs.length<=m
 nums:H nl=some (.lst (nums.map V.int))
 HR:H sl=some (.lst (S.told.map V.int))
 ne:pl≠nl/\pl≠sl/\nl≠sl
 bS:S.told.length<=m/\S.BJ.length<=m+1
section
variable {C:Addr}{H H':Hp}{p pl d nl sl:Addr}{plv:V}{nums:List Int}{S:RS}{m:Nat}
end
end L2
namespace HT
open PySem PyProof.Rows PySem.Spec
section
variable {prog:Program}{w:World}{A:Around}{E:Value->Shared->Prop}{s:Shared}
theorem oR {t sl:Addr}{items:Array Value}{vl vu:Value}{lo hi:Option Int}{Q:Value->Shared->Prop}(ht:IsTup s.heap t items)(hs:s.heap.IsSliceOf sl vl vu .none)(pl:IsPart vl lo)(pu:IsPart vu hi)
  (hw:cf items.size 0 lo=0/\cf items.size items.size hi=items.size) (h:Q (.ref t) s):wpAny (model prog w) A (getItem (.ref t) (.ref sl)) Q E s:=by
 obtain⟨os,hos,hcs,hds⟩:=id hs
 have hTs:s.TypeIs (.ref sl) "slice" := ⟨os,hos,hcs⟩
 unfold getItem
 try with_reducible refine KY ?_
 first | refine KS (KU ?_) | skip
 refine KS (Lv ht.typeIs (by decide) ?_)
 refine KS (wpAny_callSpecial?_slot (name:=Str.ofString "__getitem__") ht.typeIs PyProof.Rows.slot_tuple_getitem
  (KZ PyProof.Rows.slot_tuple_getitem ht.typeIs entry_tuple_getitem ?_ (args_tuple_getitem _ _)))
 show wpAny _ _ (Builtin.Tuple.tupleItemsOf (.ref t) >>= _) _ _ s
 refine KS (tupleItemsOf_ ht ?_)
 refine KS (Lb hTs ?_)
 rw [if_pos (by decide)]
 refine KS (jM hs pl pu ?_)
 have hno:((((cf items.size 0 lo:Nat):Int) == 0&&(1:Int) == 1&&(cf items.size items.size hi-cf items.size 0 lo) == items.size)=true):=by
  rw [hw.1,hw.2]
  simp
 show wpAny _ _ (if (((cf items.size 0 lo:Nat):Int) == 0&&(1:Int) == 1&&(cf items.size items.size hi-cf items.size 0 lo) == items.size)=true then _ else _) _ _ s
 rw [if_pos hno]
 refine KS ?_
 unfold Builtin.Tuple.tupleIsExact
 refine KS (Lb ht.typeIs (KU ?_))
 rw [if_pos (by decide)]
 refine KS (K5 ?_)
 first
  | exact KU ⟨_,rfl,KU h⟩
  | exact KS (KU (KU ⟨_,rfl,KU h⟩))
  | exact KU (KU ⟨_,rfl,KU h⟩)
end
end HT
namespace L2
open PySem PySem.Spec PyProof.Rows
section
variable {X:Cx}
inductive Gw (K:Ih) (x:V) (lo:Option Int) (hi:Option Int) (H:Hp) (Q:VK):Prop
 | mk (a xs:_) (_:x=.ref a) (_:ar K H a xs) (_:((HT.cf xs.length 0 lo=0/\HT.cf xs.length xs.length hi=xs.length)->Q (.ref a) H)) (_:(¬(HT.cf xs.length 0 lo=0/\HT.cf xs.length xs.length hi=xs.length)->∀p,H p=none->Q (.ref p) (upd H p (.tup (dC xs lo hi)))))
theorem gZ:C3 X (Gw X.K):=by
 intro pins s Ic H x v vl vu lo hi sl Q I rx hs pl pu h
 obtain⟨a,xs,rfl,hx,q1,q2⟩:=h
 by_cases hw:HT.cf xs.length 0 lo=0/\HT.cf xs.length xs.length hi=xs.length
 ·cases rx
  obtain⟨its,r,ht,hz⟩:=I.tuple hx
  have hlen:its.toArray.size=xs.length:=by rw [ID];exact r.length.symm
  refine⟨"tuple",_,PyProof.Rows.slot_tuple_getitem.lookup,ht.typeIs,?_⟩
  exact HT.oR ht hs pl pu (by rw [hlen];exact hw) ⟨.ref a,H,I,rfl,q1 hw⟩
 ·exact E8 pins s Ic H (.ref a) v vl vu lo hi sl Q I rx hs pl pu ⟨a,xs,rfl,hx,hw,q2 hw⟩
end
theorem kC {P:Program}{w:World}{x:Str}{v:Value}(h:(aU P w).is (Sum.inr x) v=true):∃t,v=.str x t:=by
 cases v with
 | str y t =>
  have:y=x:=by simpa [aU,iX,Value.isStrOf] using h
  exact⟨t,by rw [this]⟩
 | _=>simp [aU,iX,Value.isStrOf] at h
theorem qP:∀{vs:List Value} {ks:List Str},vs.length=ks.length->(∀(j:Nat) (v:Value) (x:Str),vs[j]?=some v->ks[j]?=some x->∃t,v=.str x t)->StrsAre vs ks
 | [],[],_,_=>.nil
 | v::vs,x::ks,hl,h=>by
  obtain⟨t,rfl⟩:=h 0 v x rfl rfl
  exact .cons x t (qP (by simpa using hl) fun j v' x' h1 h2=>h (j+1) v' x' (by simpa using h1) (by simpa using h2))
 | [],_::_,hl,_=>by simp at hl
 | _::_,[],hl,_=>by simp at hl
section
variable {prog:Program}{w:World}{A:Around}{E:Value->Shared->Prop}{s:Shared}
open PySem.Calls PySem.W in
theorem gather {T:String}{r d:Addr}{n:Nat}{P:Nat->Value->Prop}{OK:Heap->Prop}{G:List Value->Shared->Prop}(src:KdlSrc prog w T r d n P OK)(calm:A.handled=none)(ok:OK s.heap)(bS:n<=sizeLine)
  (fin:∀(g:Heap) (tk:Nat) (got:Array Value),(∀b o,s.heap.get? b=some o->g.get? b=some o)->ItemsOf P got n->s.heap.objs.size<=g.objs.size->G got.toList { s with heap:=g,toks:=tk }) :
  wpAny (model prog w) A (collect (.ref r)) G E s:=by
 obtain⟨lt1,lt2⟩:=src.there _ ok
 unfold collect
 refine KS (wpAny_runValue (K3 entry_proto_collect' ?_))
 rw [JC PySem.F.plain_proto_collect _]
 show wpAny _ A.in1 (newList [] >>= fun z=>again (.builtin "list.__iadd__" ⟨[z,.ref r],[]⟩)) _ _ s
 refine KS (K0 (KU ⟨plainId_quiet PySem.F.plain_list_iadd _,K3 entry_list_iadd' ?_⟩))
 rw [JC PySem.F.plain_list_iadd _]
 show wpAny _ A.in1 (Builtin.List.listExtendWith (.ref s.heap.objs.size) (.ref r) (.ref s.heap.objs.size)) _ _ _
 have made:(s.heap.push { cls:=.type "list",data:=.seq ([]:List Value).toArray }).get? s.heap.objs.size=some { cls:=.type "list",data:=.seq #[] }:=Ip _ rfl
 have run:=kdl_extend (A:=A) (s:={ s with heap:=s.heap.push { cls:=.type "list",data:=.seq ([]:List Value).toArray } })
  (R:=fun (z:Result) (t:Shared)=>∃(g:Heap) (tk:Nat) (got:Array Value) (c:Nat),z=.ok (.ret (.ref s.heap.objs.size))/\t={ s with heap:=g,toks:=tk } /\
   (∀b o,s.heap.get? b=some o->g.get? b=some o)/\g.get? s.heap.objs.size=some { cls:=.type "list",dict:=none,data:=.seq got c,slots:=#[] }/\ItemsOf P got n)
  src calm (src.keep _ _ ok fun b _ o e=>Im _ e) s.heap.objs.size (Ji lt1) (Ji lt2) (.ref s.heap.objs.size) 0 made
  (fun g tk got c kept at_ its=>⟨g,tk,got,c,rfl,rfl,fun b o e=>kept b o (Iq (Ik e)) (Im _ e),at_,its⟩) bS
 refine KW run (fun z t x=>?_) fun z t ⟨_,_,_,_,bad,_⟩=>by cases bad
 cases z with
 | done f =>
  obtain⟨g,tk,got,c,e,rfl,kept,at_,its⟩:=x
  cases e
  show wpAny _ A (load s.heap.objs.size >>= _) _ _ _
  exact KS (wpAny_load at_ (KU (fin g tk got kept its (IS (Ik at_)))))
 | again more =>
  refine⟨x.1,K6 x.2 fun z' t' ⟨g,tk,got,c,e1,e2,kept,at_,its⟩=>?_⟩
  subst e1 e2
  show wpAny _ A (load s.heap.objs.size >>= _) _ _ _
  exact KS (wpAny_load at_ (KU (fin g tk got kept its (IS (Ik at_)))))
theorem vJ {a:Addr}{kvs:List (Key×Value)}{ks:List Str}{Q:Value->Shared->Prop}(hh:A.handled=none)(lo:(a == sysModules)=false)(dd:s.heap.DictOf (aU prog w) a kvs)
  (hk:kvs.map (·.1)=ks.map Sum.inr) (h64:ks.length<64)
  (h:∀(h':Heap) (tk:Nat) (D:Addr) (out:Array Value) (ss':List Str) (e:Nat),(∀b o,s.heap.get? b=some o->h'.get? b=some o)->s.heap.objs.size<=D->h'.get? D=some { cls:=.type "list",data:=.seq out e } ->
   StrsAre out.toList ss'->ss'.Perm ks->sortedS ss' = true->Q (.ref D) { s with heap:=h',toks:=tk }) :
  wpAny (model prog w) A (call (.builtin "sorted") [.ref a]) Q E s:=by
 refine Calls.call_function_entry kind_sorted plain_sorted entry_sorted (args_sorted1 _) ?_
 unfold Builtin.«sorted»
 refine KS (m:=checkCount "sorted" 1 1 _) (KU ?_)
 obtain⟨ep,hat⟩:=dd.dictAt
 have hlk:kvs.length=ks.length:=by have:=congrArg Jo hk;simpa using this
 have hs:sizeLine=16777216\/64<=sizeLine:=.inr (by decide)
 have hz:kvs.length<=sizeLine:=by rw [hlk];exact Ir (IS h64) (by decide)
 refine KS (gather (A:=A.in1) (PySem.W.kdl_dict (knd:=aU prog w) (kvs:=kvs) (ep:=ep) lo) hh hat hz fun h' tk acc hkeep hacc hsz=>?_)
 have hl:acc.toList.length=ks.length:=by rw [Jg,hacc.1,hlk]
 have hS:StrsAre acc.toList ks:=qP hl fun j v x h1 h2=>by
  obtain⟨k,y,e1,e2⟩:=hacc.2 j v (by rw [<-Km];exact h1)
  have e3:(kvs.map (·.1))[j]?=some k:=by rw [Iu,e1];rfl
  rw [hk,Iu,h2] at e3
  cases (IA.inj e3)
  exact kC e2
 refine KS (wpAny_newList ?_ (by rw [hl];exact Ir (IS h64) (by decide)))
 have hoL:(h'.push (seqObj "list" acc.toList.toArray 0)).get? h'.objs.size=some (seqObj "list" acc.toList.toArray 0):=Ip _ rfl
 refine KS (KY (KZ slot_list_sort ⟨_,hoL,rfl⟩ entry_list_sort (list_sort_treeK strKind_oneLt hoL hS.keysOf (fun v₁ v₂ rest e=>keyKind_strs (by rw [<-e];exact hS)) (by rw [hl];exact h64) fun st' a1 a2=>⟨_,rfl,?_⟩) (args_list_sort _)))
 obtain⟨ss',b1,b2,b3⟩:=sorted_out_str hS a1 a2
 obtain⟨e,he⟩:=sortedHeap_at (out:=(arrOf st').map (·.2)) hoL
 refine KU ⟨_,rfl,h _ tk _ _ ss' e (fun b o ho=>?_) hsz he b1 b2 b3⟩
 have h1:=hkeep b o ho
 have hlt:=Ik h1
 rw [sortedHeap_old (Iq hlt) (by rw [size_push'];exact Jd hlt)]
 exact Im _ h1
end
theorem oC:∀{us:List Value} {ys:List Str},StrsAre us ys->Vals (ys.map V.str) us
 | _,_,.nil=>.nil
 | _,_,.cons x t r=>.cons ⟨t,rfl⟩ (oC r)
section
variable {X:Cx}
theorem nh (hc:X.calm=true):eO X (.builtin "sorted") (fun vs H Q=>∃(a:Addr) (kvs:List (Key×V)) (ks:List Str),vs=[.ref a]/\H a=some (.dK kvs)/\kvs.map (·.1)=ks.map Sum.inr/\ks.length<64 /\
  ∀(l:Addr) (ss:List Str),ss.Perm ks->sortedS ss=true->H l=none->Q (.ref l) (upd H l (.lst (ss.map V.str)))):=by
 intro pins s Ic H xs us Q I r h
 obtain⟨a,kvs,ks,rfl,ha,hk,h64,q⟩:=h
 obtain⟨u,rfl,ru⟩:=vals1 r
 cases (show u=Value.ref a from ru)
 obtain⟨z,hd,vs,rel,dd⟩:=qL I.aW ha
 refine vJ (I.ok.hd hc) hd dd (by rw [<-rel.keys];exact hk) h64 fun h' tk D out ss' e hkeep hD he hS hp hs=>?_
 have hv:Vals (ss'.map V.str) out.toList:=oC hS
 refine⟨.ref D,_,I.laid (t':=tk) (o:=.lst (ss'.map V.str)) hkeep hD (show b6 X.prog X.w _ h' _ (.lst (ss'.map V.str)) from ⟨?_,out.toList,e,hv,by simpa using he⟩),rfl,q D ss' hp hs (I.aW.fresh hD)⟩
 rw [Ig,hp.length_eq]
 exact Ir (IS h64) (by decide)
end
theorem vK {kvs:List (Key×V)}{k:Key}{v:V}(nd:(kvs.map (·.1)).Nodup)(h:(k,v)∈kvs):b8 kvs k=some v:=by
 induction kvs with
 | nil=>cases h
 | cons p r ih =>
  obtain⟨k',v'⟩:=p
  rw [IK,Jy] at nd
  rcases Ii.mp h with e | h
  ·cases e
   simp [b8]
  ·have hne:¬k' = k:=fun z=>nd.1 (by rw [z];exact Iv.mpr ⟨(k,v),h,rfl⟩)
   have:=ih nd.2 h
   simp [b8,hne] at this ⊢
   exact this
section
variable {X:Cx}
end
theorem sub_len {α : Type}[DecidableEq α]:∀{l m:List α},l.Nodup->(∀x∈l,x∈m)->l.length<=m.length
 | [],_,_,_=>IF _
 | x::l,m,nd,h=>by
  rw [Jy] at nd
  have hx:=h x (Iy ..)
  have h1:=sub_len (l:=l) (m:=m.erase x) nd.2 fun y hy=>(List.mem_erase_of_ne (fun z=>nd.1 (by rw [<-z];exact hy))).mpr (h y (Iz _ hy))
  rw [List.length_erase_of_mem hx] at h1
  have h2:0<m.length:=List.length_pos_of_mem hx
  show l.length+1<=m.length
  omega
theorem hG:bootBuiltins "sorted" = some (.builtin "sorted"):=PyProof.Rows.boot_sorted
theorem tV {kvs:List (Key×V)}{k:Key}{v:V}:(putK kvs k v).map (·.1)=kvs.map (·.1)/\k∈kvs.map (·.1)\/(putK kvs k v).map (·.1)=kvs.map (·.1)++[k]/\¬k∈kvs.map (·.1):=by
 unfold putK
 by_cases h:(kvs.any fun kv=>decide (kv.1=k))=true
 ·rw [if_pos h]
  refine .inl ⟨?_,?_⟩
  ·rw [Js]
   refine Kt fun p _=>?_
   show (if p.1=k then (p.1,v) else p).1=p.1
   split <;> rfl
  ·obtain⟨p,hp,he⟩:=List.any_eq_true.mp h
   exact Iv.mpr ⟨p,hp,of_decide_eq_true he⟩
 ·rw [if_neg h]
  refine .inr ⟨by rw [Iw];rfl,fun hm=>h ?_⟩
  obtain⟨p,hp,he⟩:=Iv.mp hm
  exact List.any_eq_true.mpr ⟨p,hp,decide_eq_true he⟩
def ff:cN->Str
 | .put x _=>x
 | .copy x _=>x
 | .add x _=>x
 | .read x=>x
 | .tell x=>x
theorem vL (dd:cN):fQ (oA dd) 1=some (.str (ff dd)):=by cases dd <;> exact cS
theorem cL.name {xs:List Str}{dd:cN}(h:cL xs dd):ff dd∈xs:=by
 cases dd with
 | put x n=>exact h.1
 | copy x y=>exact h.1
 | add x n=>exact h.1
 | read x=>exact h
 | tell x=>exact h
section
variable {X:Cx}
end
section
variable {a0 a1 z:V}
end
section
variable {C D:Addr}{H H':Hp}{wp p pl d nl sl:Addr}{plv:V}{nums:List Int}{S:RS}{m:Nat}
end
section
variable (C D:Addr)
end
section
variable {C D:Addr}{H H':Hp}{wp p pl d nl sl st d2 tl bl np:Addr}{plv:V}{nums nums':List Int}{S S':RS}{m m':Nat}
end
section
variable (C D:Addr)
end
section
variable {C D:Addr}{H0 H H1 H2:Hp}{wp p pl d nl sl st st' d2 tl bl np b:Addr}{plv:V}{nums more:List Int}{S S':RS}{m m':Nat}
end
section
variable {X:Cx}
inductive Gx  (x:V) (y:V) (H:Hp) (Q:VK):Prop
 | mk (a b xs ys:_) (_:x=.ref a) (_:y=.ref b) (_:H a=some (.tup xs)) (_:H b=some (.tup ys)) (_:xs.length+ys.length<=sizeLine) (_:∀t H',H' t=some (.tup (xs++ys))->ae H H'->Q (.ref t) H')
theorem fq:d5 X (binaryOp .Add) Gx:=by
 intro pins s Ic H x y v u Q I rx ry h
 obtain⟨a,b,xs,ys,rfl,rfl,ha,hb,hz,q⟩:=h
 cases rx
 cases ry
 obtain⟨its,r1,p1,_⟩:=I.tuple (ar.of ha)
 obtain⟨its2,r2,p2,_⟩:=I.tuple (ar.of hb)
 by_cases hx:xs=[]
 ·subst hx
  have hi:its=[]:=r1.ow.mpr rfl
  subst hi
  obtain⟨⟨cls,dd,data,sl⟩,ho,hc,n,hd⟩:=id p1
  obtain⟨⟨cls2,dd2,data2,sl2⟩,ho2,hc2,n2,hd2⟩:=id p2
  simp only at hc hd hc2 hd2
  subst hc hd hc2 hd2
  exact concat_meets ⟨_,ho,rfl⟩ ⟨_,ho2,rfl⟩ noFill_tuple_add seq_tuple_add PySem.F.slot_tuple_add PySem.F.entry_tuple_add (PySem.F.args_tuple_add_2 _ _)
   (tuple_addW0 a b [].toArray its2.toArray n n2 dd dd2 sl sl2 (by simp)) ⟨ho,ho2,⟨.ref b,H,I,rfl,q b H hb (ae.refl H)⟩⟩
 ·refine HT.DI p1 p2 (fun z=>hx (r1.ow.mp z)) (fun z=>⟨.ref a,H,I,rfl,q a H (by rw [r2.ow.mp z,JF];exact ha) (ae.refl H)⟩) (fun z=>?_) (by rw [<-r1.length,<-r2.length];exact hz)
  have fr:=I.aW.fresh (a:=s.heap.objs.size) (Ij _)
  refine⟨.ref s.heap.objs.size,_,I.laid (t':=s.toks) (o:=.tup (xs++ys)) (fun b ob q=>Im _ q) (Ij _) ?_,rfl,q _ _ aa (ae.new fr)⟩
  exact⟨by rw [Io];exact hz,_,r1.append r2,⟨_,Ip _ rfl,rfl,_,rfl,rfl⟩⟩
end
section
variable {ps:List Piece}{nums more:List Int}{S S0:RS}{m n:Nat}
end
section
variable {ps:List Piece}{nums more:List Int}{S:RS}{m n:Nat}
end
inductive Call where
 | hand (ns:List Int)
 | go (n:Nat)
structure Fz where
 S:RS
 nums:List Int
 m:Nat
structure WA where
 wp:Addr
 p:Addr
 pl:Addr
 d:Addr
 nl:Addr
 sl:Addr
section
variable {C D:Addr}{H H' H0:Hp}{x y:WA}{pv pv':V}{s s':Fz}{c:Addr}{o:HO}
end
section
variable (C D:Addr)
end
section
variable {C D:Addr}{H0 H H1:Hp}{w0 w1 w2:WA}{wl cl nb:Addr}{plv ov:V}{x0 x1 x2 x':Fz}{n0 n1 n':List Int}{vs:List V}{cs:List Call}
end
structure BL (K:Ih) (mg:Str->Option Value) (nm:Str) (a:Addr) (D:List (Str×Addr)):Prop where
 qQ:mg nm=some (.ref a)
 lk:∃es ep,K.lookup a=some ⟨.type "dict",none,.dict es ep,#[]⟩/\KTD.Rows (fun d v=>v=Value.ref d) es.toList D
section
variable {prog:Program}{w:World}{A:Around}{E:Value->Shared->Prop}{s:Shared}
theorem BM {a d:Addr}{o:Obj}{es:Array DictEntry}{ep:Nat}{k:Str}{t:Tok}{D:List (Str×Addr)}{Q:Option Value->Shared->Prop}(ho:s.heap.get? a=some o)(hd:o.data=.dict es ep)
  (hr:KTD.Rows (fun d v=>v=Value.ref d) es.toList D) (ha:KTD.datumAt k D=some d) (q:Q (some (.ref d)) { s with toks:=s.toks+1 }):wpAny (model prog w) A (dictGet a (.str k t)) Q E s:=by
 unfold dictGet
 try with_reducible refine KY ?_
 refine KS (Ls (KS (KTD.kt_dictFind_strs (s:={ s with toks:=s.toks+1 }) ho hd (by have:=hr.exact;obtain⟨l⟩:=es;simpa using this) ?_)))
 have hq:Q (findBy (fun k v=>v.isStr k) es k) { s with toks:=s.toks+1 }:=by
  obtain⟨v,hv,rfl⟩:=hr.find_some ha
  have e:findBy (fun k v=>v.isStr k) es k=some (.ref d):=by
   rw [<-hv]
   obtain⟨l⟩:=es
   simp [findBy]
  rw [e]
  exact q
 rw [findBy_of_findIdx?] at hq
 cases hi:es.findIdx? fun e=>e.key.isStr k with
 | some i=>rw [hi] at hq;exact KS (wpAny_dictEntries (s:={ s with toks:=s.toks+1 }) ho hd (KU hq))
 | none=>rw [hi] at hq;exact KU hq
theorem BN {a d:Addr} {o:Obj} {es:Array DictEntry} {ep:Nat} {k:Str} {t:Tok} {D:List (Str×Addr)} {Q:Value->Shared->Prop} (ty:s.TypeIs (.ref a) "dict") (ho:s.heap.get? a=some o) (hd:o.data=.dict es ep)
  (hr:KTD.Rows (fun d v=>v=Value.ref d) es.toList D) (ha:KTD.datumAt k D=some d) (q:Q (.ref d) { s with toks:=s.toks+1 }):wpAny (model prog w) A (getItem (.ref a) (.str k t)) Q E s:=by
 unfold getItem
 try with_reducible refine KY ?_
 refine KS (Lv ty (by decide) (KS (wpAny_callSpecial?_slot (name:=Str.ofString "__getitem__") ty slot_dict_getitem (KZ slot_dict_getitem ty entry_dict_getitem ?_ (args_dict_getitem _ _)))))
 show wpAny _ _ (dictGet a (.str k t) >>= fun _=>_) _ _ s
 exact KS (BM ho hd hr ha (KU ⟨_,rfl,KU q⟩))
end
section
variable {X:Cx}
theorem sE {nm:Str} {a:Addr} {D:List (Str×Addr)} {i:Expr} {p pos:Pos} {ty:TE} (G:BL X.K X.mg nm a D) (hg:Gl X nm) (hi:PE X i ty) (hs:yO i) (hdb:(nm == ("__debug__" : Str))=false:=by decide) :
  PE X (.Subscript (.Name nm p) i pos) (fun Ic H Q=>ty Ic H fun y H1=>∃x d,y=.str x/\KTD.datumAt x D=some d/\Q (.ref d) H1):=by
 intro pins s Ic H Q I h
 obtain⟨es,ep,hk,hr⟩:=G.lk
 refine sC PySem.F.slot_dict_getitem.lookup hs (br (gm (v:=.ref a) hg G.qQ rfl hdb pins s Ic H (fun x H1=>x=.ref a/\ty Ic H1 fun y H1=>∃x d,y=.str x/\KTD.datumAt x D=some d/\Q (.ref d) H1) I ⟨rfl,h⟩) fun u s1 ⟨x,H1,I1,rx,ex,q1⟩=>?_)
 subst ex
 obtain rfl:u=Value.ref a:=rx
 refine br (hi pins s1 Ic H1 _ I1 q1) fun iv s2 ⟨y,H2,I2,ry,k,d,ey,hd,q2⟩=>?_
 subst ey
 obtain⟨t,rfl⟩:=(show ∃t,iv=Value.str k t from ry)
 have ho:=I2.i0 a _ hk
 exact⟨⟨_,ho,rfl⟩,BN ⟨_,ho,rfl⟩ ho rfl hr hd ⟨.ref d,H2,I2.tok _,rfl,q2⟩⟩
end
def pick (w:Str)(xs:List V)(ks:List Str):List V:=((xs.zip ks).filter fun p=>decide (p.2=w)).map (·.1)
def ki (w:Str)(xs:List V)(ks:List Str)(i:Nat):List V:=(((xs.zip ks).take i).filter fun p=>decide (p.2=w)).map (·.1)
theorem yU {w:Str}{xs:List V}{ks:List Str}{i:Nat}{x:V}{k:Str}(hx:xs[i]?=some x)(hk:ks[i]?=some k):ki w xs ks (i+1)=ki w xs ks i++(if k=w then [x] else []):=by
 have hz:(xs.zip ks)[i]?=some (x,k):=by rw [List.getElem?_zip_eq_some];exact⟨hx,hk⟩
 unfold ki
 rw [IP,hz,Jv,Iw]
 congr 1
 by_cases h:k=w
 ·rw [if_pos h];simp [h]
 ·rw [if_neg h];simp [h]
theorem Af {w:Str}{xs:List V}{ks:List Str}:ki w xs ks (min xs.length (ks.map V.str).length)=pick w xs ks:=by
 unfold ki pick
 rw [Ig,KN (by rw [List.length_zip];exact Ij _)]
theorem Ag {w:Str}{xs:List V}{ks:List Str}{i:Nat}:(ki w xs ks i).length<=i:=by
 unfold ki
 rw [Ig]
 exact Ir (Jr ..) (by rw [IH];exact Nat.min_le_left ..)
theorem ar.same {K:Ih}{H H':Hp}{a:Addr}{xs:List V}(h:ar K H a xs)(s:ae H H'):ar K H' a xs:=by
 rcases h with h | h
 ·rcases h with h | h
  ·exact .inl (.inl (s _ _ h))
  ·obtain⟨b,hb⟩:=h
   exact .inl (.inr ⟨b,s _ _ hb⟩)
 ·exact .inr h
inductive sF (K:Ih) (vs:List V) (H:Hp) (Q:VK) (_:XK):Prop
 | mk (t s:Addr) (v0:V) (xs:List V) (ks:List Str) (w:Str) (_:vs=[.ref t,.ref s,.str w]) (_:H t=some (.tup (v0::xs))) (_:ar K H s (ks.map V.str)) (_:xs.length<=1000) (_:∀l H',H' l=some (.lst (pick w xs ks))->ae H H'->Q (.ref l) H')
def KTup (K:Ih)(a:Addr)(ks:List Str):Prop:=∃(o:Obj) (its:Array Value) (n:Nat),K.lookup a=some o/\o.cls=.type "tuple" /\ o.data=.seq its n/\its.size<=sizeLine/\Vals (ks.map V.str) its.toList
structure vM (K:Ih) (mg:Str->Option Value) (aE s0 s1 s2 s3:Addr):Prop where
 tab:BL K mg "END_PARTS" aE [("stop",s0),("go",s1),("less",s2),("is",s3)]
 q0:KTup K s0 []
 q1:KTup K s1 ["piece"]
 q2:KTup K s2 ["name", "number", "piece", "piece"]
 q3:KTup K s3 ["name", "number", "piece", "piece"]
def bH:End->List Nat
 | .stop=>[]
 | .go p=>[p]
 | .cm _ _ _ p q=>[p,q]
def kE:End->List Str
 | .stop=>[]
 | .go _=>["piece"]
 | .cm ..=>["name", "number", "piece", "piece"]
def wE:End->Str
 | .stop => "stop"
 | .go _ => "go"
 | .cm b ..=>wT b
theorem Ah (e:End):∃xs,dm e=.str (wE e)::xs/\xs.length<=1000/\pick "piece" xs (kE e)=(bH e).map fun k=>V.int (k:Nat):=by
 cases e with
 | stop=>exact⟨[],rfl,by decide,rfl⟩
 | go p=>exact⟨_,rfl,by show 1<=1000;decide,by simp [pick,kE,bH]⟩
 | cm b x n p q =>
  refine⟨_,rfl,by show 4<=1000;decide,?_⟩
  have h1:¬("name" : Str) = "piece" := by decide +kernel
  have h2:¬("number" : Str) = "piece" := by decide +kernel
  simp [pick,kE,bH,h1,h2]
theorem vM.at_ {K:Ih} {mg:Str->Option Value} {aE s0 s1 s2 s3:Addr} (G:vM K mg aE s0 s1 s2 s3) (e:End):∃s,KTD.datumAt (wE e) [(("stop" : Str),s0),("go",s1),("less",s2),("is",s3)]=some s/\KTup K s (kE e):=by
 have hit:∀{k:Str} {d:Addr} {D:List (Str×Addr)},KTD.datumAt k ((k,d)::D)=some d:=fun {k d D}=>by
  show (if decide (k=k)=true then some d else KTD.datumAt k D)=some d
  rw [if_pos (decide_eq_true rfl)]
 have miss:∀{k x:Str} {d:Addr} {D:List (Str×Addr)} {o:Option Addr},¬k=x->KTD.datumAt k D=o->KTD.datumAt k ((x,d)::D)=o:=fun {k x d D o} h e=>by
  show (if decide (k=x)=true then some d else KTD.datumAt k D)=o
  rw [if_neg (by rw [decide_eq_false h];decide)]
  exact e
 cases e with
 | stop=>exact⟨s0,hit,G.q0⟩
 | go p=>exact⟨s1,miss (show ¬(("go" : Str) = "stop") by decide +kernel) hit,G.q1⟩
 | cm b x n p q =>
  cases b with
  | true=>exact⟨s2,miss (show ¬(("less" : Str) = "stop") by decide +kernel) (miss (show ¬(("less" : Str) = "go") by decide +kernel) hit),G.q2⟩
  | false=>exact⟨s3,miss (show ¬(("is" : Str) = "stop") by decide +kernel) (miss (show ¬(("is" : Str) = "go") by decide +kernel) (miss (show ¬(("is" : Str) = "less") by decide +kernel) hit)),G.q3⟩
inductive lj  (vs:List V) (H:Hp) (Q:VK) (_:XK):Prop
 | mk (ea:Addr) (e:End) (_:vs=[.ref ea]) (_:H ea=some (.tup (dm e))) (_:∀t H',H' t=some (.tup ((bH e).map fun k=>V.int (k:Nat)))->ae H H'->Q (.ref t) H')
end L2
namespace LS
open PySem
def Up (xs:Array Nat):Prop:=∀(i j:Nat) (a b:Nat),i<j->xs[i]?=some a->xs[j]?=some b->a<b
theorem BO {xs:Array Nat}{j:Nat}(up:Up xs):∀(fuel lo hi:Nat),hi-lo<=fuel->lo<=hi->hi<=xs.size ->
  (∀i a,i<lo->xs[i]?=some a->a<j)->(∀i a,hi<=i->xs[i]?=some a->j<=a) ->
  (∀i a,i<SetTable.below.go xs j fuel lo hi->xs[i]?=some a->a<j)/\(∀i a,SetTable.below.go xs j fuel lo hi<=i->xs[i]?=some a->j<=a)/\SetTable.below.go xs j fuel lo hi<=xs.size:=by
 intro fuel
 induction fuel with
 | zero =>
  intro lo hi h1 h2 h3 h4 h5
  have e:lo=hi:=by omega
  subst e
  unfold SetTable.below.go
  exact⟨h4,h5,h3⟩
 | succ f ih =>
  intro lo hi h1 h2 h3 h4 h5
  unfold SetTable.below.go
  by_cases hl:lo<hi
  ·rw [if_pos hl]
   dsimp only
   have hm:(lo+hi) / 2<hi:=by omega
   have hm2:lo<=(lo+hi) / 2:=by omega
   generalize (lo+hi) / 2=mid at hm hm2
   have hs:mid<xs.size:=by omega
   have hg:xs[mid]?=some xs[mid]:=by simp [hs]
   have hd:xs.getD mid j=xs[mid]:=by simp [Array.getD,hs]
   rw [hd]
   by_cases hc:xs[mid]<j
   ·rw [if_pos hc]
    refine ih (mid+1) hi (by omega) (by omega) h3 (fun i a hi' he=>?_) h5
    by_cases e:i=mid
    ·subst e;rw [hg] at he;cases he;exact hc
    ·have:=up i mid a _ (by omega) he hg;omega
   ·rw [if_neg hc]
    refine ih lo mid (by omega) hm2 (by omega) h4 (fun i a hi' he=>?_)
    by_cases e:i=mid
    ·subst e;rw [hg] at he;cases he;omega
    ·have:=up mid i _ a (by omega) hg he;omega
  ·rw [if_neg hl]
   have e:lo=hi:=by omega
   subst e
   exact⟨h4,h5,h3⟩
theorem pP {xs:Array Nat}{j:Nat}(up:Up xs) :
    (∀i a,i<SetTable.below xs j->xs[i]?=some a->a<j)/\(∀i a,SetTable.below xs j<=i->xs[i]?=some a->j<=a)/\SetTable.below xs j<=xs.size :=
  BO up xs.size 0 xs.size (by omega) (IF _) (Ij _) (fun _ _ h=>absurd h (Nat.not_lt_zero _)) (fun i a h e=>by
    have:xs[i]?=none:=by simp;omega
    rw [this] at e;cases e)
theorem vP {α : Type}{xs:Array α}{p:Nat}{x:α}(hp:p<=xs.size)(i:Nat) :
  (SetTable.insertAt xs p x)[i]?=if i<p then xs[i]? else if i=p then some x else xs[i-1]?:=by
 unfold SetTable.insertAt
 have h1:(xs.extract 0 p).size=p:=by simp;omega
 rw [Array.getElem?_append]
 have h2:((xs.extract 0 p).push x).size=p+1:=by simp;omega
 rw [h2]
 by_cases a:i<p
 ·rw [if_pos (by omega),if_pos a,Array.getElem?_push,h1,if_neg (by omega)]
  rw [Array.getElem?_extract]
  simp;omega
 ·rw [if_neg a]
  by_cases b:i=p
  ·subst b
   rw [if_pos (by omega),if_pos rfl,Array.getElem?_push,h1,if_pos rfl]
  ·rw [if_neg (by omega),if_neg b]
   rw [Array.getElem?_extract]
   have:p+(i-(p+1))=i-1:=by omega
   rw [this]
   by_cases c:i-1<xs.size
   ·simp;omega
   ·have:xs[i-1]?=none:=by simp;omega
    rw [this];simp
theorem Up.insert {xs:Array Nat}{j:Nat}(up:Up xs)(hn:xs[SetTable.below xs j]?≠some j):Up (SetTable.insertAt xs (SetTable.below xs j) j):=by
 obtain⟨h1,h2,h3⟩:=pP (j:=j) up
 generalize SetTable.below xs j=p at h1 h2 h3 hn
 have h2':∀i a,p<=i->xs[i]?=some a->j<a:=fun i a hi e=>by
  have q:=h2 i a hi e
  by_cases z:i=p
  ·subst z
   rcases Nat.lt_or_ge j a with c | c
   ·exact c
   ·have:a=j:=by omega
    subst this;exact absurd e hn
  ·have hps:p<xs.size:=by
    have:i<xs.size:=by
     rcases Nat.lt_or_ge i xs.size with c | c
     ·exact c
     ·have:xs[i]?=none:=by simp;omega
      rw [this] at e;cases e
    omega
   have e1:xs[p]?=some xs[p]:=by simp [hps]
   have q1:=h2 p _ (Ij _) e1
   have q2:=up p i _ _ (by omega) e1 e
   omega
 intro a b x y hab ha hb
 rw [vP h3] at ha hb
 by_cases c1:a<p
 ·rw [if_pos c1] at ha
  by_cases d1:b<p
  ·rw [if_pos d1] at hb;exact up a b _ _ hab ha hb
  ·rw [if_neg d1] at hb
   by_cases d2:b=p
   ·rw [if_pos d2] at hb;cases hb;exact h1 a _ c1 ha
   ·rw [if_neg d2] at hb
    exact Ks (h1 a _ c1 ha) (h2' (b-1) _ (by omega) hb)
 ·rw [if_neg c1] at ha
  by_cases c2:a=p
  ·rw [if_pos c2] at ha;cases ha
   rw [if_neg (by omega),if_neg (by omega)] at hb
   exact h2' (b-1) _ (by omega) hb
  ·rw [if_neg c2] at ha
   rw [if_neg (by omega),if_neg (by omega)] at hb
   exact up (a-1) (b-1) _ _ (by omega) ha hb
def Rp (t:SetTable):Prop:=t.plain=true->Up t.place
theorem BP {t:SetTable}{f:Nat->Int}{h:Int}:∀(fuel:Nat) (p:SetTable.Probe) (j:Nat) (d:Option Nat),(∀x,p.dummy=some x->t.place[SetTable.below t.place x]?≠some x) ->
  SetTable.probe.go t f h fuel p=some (.empty j d)->t.place[SetTable.below t.place (d.getD j)]?≠some (d.getD j):=by
 intro fuel
 induction fuel with
 | zero=>intro p j d _ e;unfold SetTable.probe.go at e;cases e
 | succ n ih =>
  intro p j d hd e
  unfold SetTable.probe.go at e
  have adv:∀q:SetTable.Probe,(t.advance q).dummy=q.dummy:=fun q=>by unfold SetTable.advance;split <;> rfl
  cases hs:t.slot p.j with
  | empty =>
   rw [hs] at e
   dsimp only at e
   injection e with e
   injection e with e1 e2
   subst e1;subst e2
   unfold SetTable.slot at hs
   dsimp only at hs
   split at hs
   ·cases hs
   ·rename_i hne
    cases hdm:p.dummy with
    | none=>intro z;exact hne (by rw [show (none:Option Nat).getD p.j=p.j from rfl] at z;simpa using z)
    | some x=>exact hd x hdm
  | dummy =>
   rw [hs] at e
   dsimp only at e
   refine ih _ j d (fun x hx=>?_) e
   rw [adv] at hx
   injection hx with hx
   subst hx
   unfold SetTable.slot at hs
   dsimp only at hs
   split at hs
   ·cases hs
   ·rename_i hne
    intro z;exact hne (by simpa using z)
  | live i =>
   rw [hs] at e
   dsimp only at e
   split at e
   ·cases e
   ·exact ih _ j d (fun x hx=>hd x (by rw [adv] at hx;exact hx)) e
theorem vQ {t:SetTable}{h:Int}{j:Nat}{b:Bool}(e:t.freeSlot h=some (j,b)):t.place[SetTable.below t.place j]?≠some j:=by
 unfold SetTable.freeSlot at e
 split at e
 ·rename_i j' d hp
  injection e with e
  injection e with e1 e2
  subst e1
  unfold SetTable.probe at hp
  exact BP _ _ _ _ (fun x hx=>by cases hx) hp
 ·cases e
theorem Rp.standIn (t:SetTable)(n:Nat):Rp (t.standIn n):=fun h=>by cases h
theorem Rp.layNew {t:SetTable}(r:Rp t)(es:Array (Int×Value))(h:Int)(x:Value):Rp (layNew t es h x).2.1/\(layNew t es h x).2.1.led=t.led:=by
 unfold PySem.layNew
 split
 ·rename_i j b e
  dsimp only
  unfold SetTable.orStandIn
  split
  ·refine⟨fun hp=>?_,rfl⟩
   exact (r hp).insert (vQ e)
  ·exact⟨Rp.standIn _ _,rfl⟩
 ·exact⟨Rp.standIn _ _,rfl⟩
theorem BQ (n:Nat)(f:Nat->Option Nat):Up (((IZ n).filterMap fun j=>(f j).map fun k=>(j,k)).map (·.1)).toArray:=by
 have hs:Jq (· < ·) (((IZ n).filterMap fun j=>(f j).map fun k=>(j,k)).map (·.1)):=by
  have hl:List.Sublist (((IZ n).filterMap fun j=>(f j).map fun k=>(j,k)).map (·.1)) (IZ n):=by
   generalize IZ n=l
   induction l with
   | nil=>exact List.Sublist.refl _
   | cons a l ih =>
    rw [JO]
    cases e:f a with
    | none=>exact ih.cons a
    | some k=>exact ih.cons₂ a
  exact Jq.sublist hl List.pairwise_lt_range
 intro i j a b hij ha hb
 rw [List.getElem?_toArray] at ha hb
 have hi:i<_:=(IE.mp ha).1
 have hj:j<_:=(IE.mp hb).1
 have:=List.pairwise_iff_getElem.mp hs i j hi hj hij
 rw [(IE.mp ha).2,(IE.mp hb).2] at this
 exact this
theorem Rp.relayAll (t:SetTable)(es:Array (Int×Value))(n:Nat):Rp (relayAll t es n).2.1/\(relayAll t es n).2.1.led=t.led:=by
 unfold PySem.relayAll
 split
 ·rename_i t' order e
  dsimp only
  split
  ·unfold SetTable.relaid SetTable.laid at e
   simp only [bind,Option.bind] at e
   split at e
   ·cases e
   ·rename_i owner _
    injection e with e
    injection e with e1 _
    subst e1
    exact⟨fun _=>BQ _ _,rfl⟩
  ·exact⟨Rp.standIn _ _,rfl⟩
 ·exact⟨Rp.standIn _ _,rfl⟩
theorem yV {xs:Array Nat}(up:Up xs){i a:Nat}(e:xs[i]?=some a):SetTable.below xs (a+1)=i+1:=by
 obtain⟨h1,h2,h3⟩:=pP (j:=a+1) up
 have hi:i<xs.size:=(Array.getElem?_eq_some_iff.mp e).1
 rcases Nat.lt_trichotomy (SetTable.below xs (a+1)) (i+1) with c | c | c
 ·have:=h2 i a (by omega) e;omega
 ·exact c
 ·have hs:i+1<xs.size:=by omega
  have e':xs[i+1]?=some xs[i+1]:=by simp [hs]
  have q1:=h1 (i+1) _ c e'
  have q2:=up i (i+1) _ _ (by omega) e e'
  omega
theorem yW {xs:Array Nat}(up:Up xs):SetTable.below xs 0=0:=by
 obtain⟨h1,h2,h3⟩:=pP (j:=0) up
 rcases Nat.eq_zero_or_pos (SetTable.below xs 0) with c | c
 ·exact c
 ·have e':xs[0]?=some xs[0]:=by simp
  have:=h1 0 _ c e';omega
theorem Up.bS {xs:Array Nat}(h:xs.size<=1):Up xs:=fun i j a b hij ha hb=>by
 have:=(Array.getElem?_eq_some_iff.mp hb).1;omega
open PySem.Spec PyProof.Rows
section
variable {prog:Program}{w:World}{K:Type}[DecidableEq K]{knd:KeyKind prog w K}
variable {A:Around}{E:Value->Shared->Prop}{s:Shared}
def Ent (knd:KeyKind prog w K)(e:Int×Value)(k:K):Prop:=knd.is k e.2=true/\e.1=knd.hash k/\e.2.scannable=true
structure dN (knd:KeyKind prog w K) (h:Heap) (a:Addr) (ks:List K) (o:Obj) (es:Array (Int×Value)) (ep:Nat) (t:SetTable):Prop where
 at_:h.get? a=some o
 ex:o.ExactSet
 data:o.data=.set es ep t
 ents:∃ls:List K,ls.Perm ks/\Paired (Ent knd) es.toList ls
 nd:ks.Nodup
 bS:es.size<scanBound
 fits:t.fits es.size=true
 led:t.led = !(w.params.followText "set-order")
 up:Rp t
def eS (knd:KeyKind prog w K)(h:Heap)(a:Addr)(ks:List K):Prop:=∃o es ep t,dN knd h a ks o es ep t
theorem kF {α β : Type}{F:α->β->Prop}:∀{l l':List α},l.Perm l'->∀{m':List β},Paired F l' m'->∃m,m.Perm m'/\Paired F l m:=by
 intro l l' p
 induction p with
 | nil=>intro m' h;exact⟨m',.refl _,h⟩
 | cons x p ih =>
  intro m' h
  cases h with
  | cons r t=>obtain⟨m,q,e⟩:=ih t;exact⟨_,q.cons _,.cons r e⟩
 | swap x y l =>
  intro m' h
  cases h with
  | cons r t=>cases t with
   | cons r' t'=>exact⟨_,.swap _ _ _,.cons r' (.cons r t')⟩
 | trans p q ih1 ih2 =>
  intro m' h
  obtain⟨m1,a1,b1⟩:=ih2 h
  obtain⟨m2,a2,b2⟩:=ih1 b1
  exact⟨m2,a2.trans a1,b2⟩
theorem jw {α β : Type}{F:α->β->Prop}:∀{l:List α} {m:List β},Paired F l m->(∀x∈l,∃y∈m,F x y)/\(∀y∈m,∃x∈l,F x y)
 | _,_,.nil=>⟨(fun _ h=>nomatch h),(fun _ h=>nomatch h)⟩
 | _,_,.cons r t=>by
  obtain⟨h1,h2⟩:=jw t
  refine⟨fun x hx=>?_,fun y hy=>?_⟩
  ·rcases Ii.mp hx with rfl | hx
   ·exact⟨_,Iy ..,r⟩
   ·obtain⟨y,hy,f⟩:=h1 x hx;exact⟨y,Iz _ hy,f⟩
  ·rcases Ii.mp hy with rfl | hy
   ·exact⟨_,Iy ..,r⟩
   ·obtain⟨x,hx,f⟩:=h2 y hy;exact⟨x,Iz _ hx,f⟩
theorem o4 {α β : Type}{F:α->β->Prop}{x:α}{y:β}(f:F x y):∀{l:List α} {m:List β},Paired F l m->Paired F (l++[x]) (m++[y])
 | _,_,.nil=>.cons f .nil
 | _,_,.cons r t=>.cons r (o4 f t)
variable {a:Addr}{ks:List K}{o:Obj}{es:Array (Int×Value)}{ep:Nat}{t:SetTable}{h h':Heap}
theorem dN.elems (S:dN knd h a ks o es ep t):ElemsOf knd es.toList:=fun e he=>by
 obtain⟨ls,_,p⟩:=S.ents
 obtain⟨k,_,f⟩:=(jw p).1 e he
 exact⟨⟨k,f.1,f.2.1⟩,f.2.2⟩
theorem dN.len (S:dN knd h a ks o es ep t):es.size=ks.length:=by
 obtain⟨ls,q,p⟩:=S.ents
 rw [<-Jg,p.length,q.length_eq]
theorem dN.mem (S:dN knd h a ks o es ep t)(k:K):k∈ks↔∃e∈es.toList,knd.is k e.2=true:=by
 obtain⟨ls,q,p⟩:=S.ents
 rw [<-q.mem_iff]
 constructor
 ·intro hk
  obtain⟨e,he,f⟩:=(jw p).2 k hk
  exact⟨e,he,f.1⟩
 ·rintro⟨e,he,f⟩
  obtain⟨k',hk',f'⟩:=(jw p).1 e he
  rw [knd.inj e.2 k k' f f'.1];exact hk'
theorem dN.setOf (S:dN knd h a ks o es ep t):h.SetOf knd a (fun k=>decide (k∈ks)) ks.length :=
 ⟨o,es,ep,t,S.at_,S.ex,S.data,S.elems,fun k=>by rw [decide_eq_true_eq];exact S.mem k,S.bS,S.fits,S.len⟩
theorem dN.keep (S:dN knd h a ks o es ep t)(k:∀o,h.get? a=some o->h'.get? a=some o):dN knd h' a ks o es ep t:={ S with at_:=k _ S.at_ }
theorem eS.keep (S:eS knd h a ks)(k:∀o,h.get? a=some o->h'.get? a=some o):eS knd h' a ks:=let ⟨o,es,ep,t,S⟩:=S;⟨o,es,ep,t,S.keep k⟩
theorem eS.setOf (S:eS knd h a ks):h.SetOf knd a (fun k=>decide (k∈ks)) ks.length:=let ⟨_,_,_,_,S⟩:=S;S.setOf
theorem vR {o:Obj}{es es':Array (Int×Value)}{ep:Nat}{t t':SetTable}(hd:o.data=.set es ep t):Obj.putSet es' t' o={ o with data:=.set es' (ep+1) t' }:=putSet_of es' t' hd
theorem dN.store {es':Array (Int×Value)}{t':SetTable}{ks':List K}(S:dN knd h a ks o es ep t)(he:∃ls:List K,ls.Perm ks'/\Paired (Ent knd) es'.toList ls)(nd:ks'.Nodup)(bS:es'.size<scanBound)
  (fits:t'.fits es'.size=true) (led:t'.led=t.led) (up:Rp t'):dN knd (h.update a (Obj.putSet es' t')) a ks' { o with data:=.set es' (ep+1) t' } es' (ep+1) t' where
 at_:=by
  have q:=Jz (Obj.putSet es' t') S.at_ (by rw [vR S.data];rfl)
  rw [vR S.data] at q
  exact q
 ex:=S.ex
 data:=rfl
 ents:=he
 nd:=nd
 bS:=bS
 fits:=fits
 led:=led.trans S.led
 up:=up
theorem pQ {g:Bool->Sem Unit}(hg:∀(b:Bool) (s₁ : Shared) (Q':Unit->Shared->Prop),Q' () s₁->wpAny (model prog w) A (g b) Q' E s₁){es1:Array (Int×Value)}{t2:SetTable}{ks':List K}
  (S:dN knd s.heap a ks o es ep t) (he:∃ls:List K,ls.Perm ks'/\Paired (Ent knd) es1.toList ls) (nd:ks'.Nodup) (bS:es1.size<scanBound) (fits:t2.fits es1.size=true) (led:t2.led=t.led) (up:Rp t2) {wd:Bool}
  {R:Option Bool->Shared->Prop} (q:∀h',IT a s.heap h'->eS knd h' a ks'->R (some true) { s with heap:=h' }) :
  wpAny (model prog w) A (storeSet a es1 t2 >>= fun _=>if (!wd&&t2.tooFull)=true then g (relayAll t2 es1 (SetTable.grown es1.size)).2.2 >>= fun _ =>
   storeSet a (relayAll t2 es1 (SetTable.grown es1.size)).1 (relayAll t2 es1 (SetTable.grown es1.size)).2.1 >>= fun _=>pure (some true) else pure (some true)) R E s:=by
 refine KS (wpAny_storeSet_of S.at_ S.data ?_ (fits_of_scanBound bS))
 have S1:=S.store he nd bS fits led up
 have b1:=IT.update s.heap a (Obj.putSet es1 t2)
 by_cases hc:(!wd&&t2.tooFull)=true
 ·rw [if_pos hc]
  have p1:=relayAll_perm t2 es1 (SetTable.grown es1.size)
  have p2:=relayAll_fits t2 es1 (SetTable.grown es1.size)
  have p3:=Rp.relayAll t2 es1 (SetTable.grown es1.size)
  generalize relayAll t2 es1 (SetTable.grown es1.size)=R3 at p1 p2 p3
  obtain⟨es3,t3,gv⟩:=R3
  obtain⟨ls,l1,l2⟩:=he
  obtain⟨ls3,l3,l4⟩:=kF p1 l2
  have z:es3.size=es1.size:=by rw [<-Jg,p1.length_eq,Jg]
  have few3:es3.size<scanBound:=by rw [z];exact bS
  refine KS (hg _ _ _ ?_)
  refine KS (wpAny_storeSet_of S1.at_ S1.data ?_ (fits_of_scanBound few3))
  exact KU (q _ (b1.trans (IT.update _ a _)) ⟨_,_,_,_,S1.store ⟨ls3,l3.trans l1,l4⟩ nd few3 p2 p3.2 p3.1⟩)
 ·rw [if_neg hc]
  exact KU (q _ b1 ⟨_,_,_,_,S1⟩)
theorem yX {k:K}{x:Value}{Q:Bool->Shared->Prop}(hk:knd.is k x=true)(hsc:x.scannable=true)(S:eS knd s.heap a ks)(room:ks.length+1<scanBound)
  (q:∀h',IT a s.heap h'->eS knd h' a (if k∈ks then ks else ks++[k])->Q (!decide (k∈ks)) { s with heap:=h' }) :
  wpAny (model prog w) A (setAddHashed a x (knd.hash k)) Q E s:=by
 obtain⟨o,es,ep,t,S⟩:=S
 have few1:es.size+1<scanBound:=by rw [S.len];exact room
 unfold setAddHashed setAddHashedIn
 refine KY (KS (Lf S.at_ S.data S.fits ?_))
 dsimp only
 rw [byScan_of hsc S.bS S.elems]
 simp only [↓reduceIte]
 unfold setAddByScan
 refine KS (KS (K5 ?_))
 refine KS (wpAny_setScan_of hk S.at_ S.data S.fits S.elems ?_)
 cases hr:List.findIdx? (fun e=>knd.is k e.2) es.toList with
 | some j =>
  obtain⟨hj,hpj,_⟩:=List.findIdx?_eq_some_iff_getElem.mp hr
  have hin:k∈ks:=(S.mem k).mpr ⟨es.toList[j],Kn hj,hpj⟩
  refine KU (KU ?_)
  have:=q s.heap (IT.refl a s.heap) (by rw [if_pos hin];exact⟨o,es,ep,t,S⟩)
  rw [decide_eq_true hin] at this
  exact this
 | none =>
  have hin:¬k∈ks:=fun z=>by
   obtain⟨e,he,hp⟩:=(S.mem k).mp z
   have:=List.findIdx?_eq_none_iff.mp hr e he
   rw [hp] at this;exact Bool.noConfusion this
  rw [if_neg hin,decide_eq_false hin] at q
  have p1:=layNew_perm t es (knd.hash k) x
  have p2:=layNew_fits t es (knd.hash k) x
  have p3:=S.up.layNew es (knd.hash k) x
  dsimp only
  generalize layNew t es (knd.hash k) x=L at p1 p2 p3 ⊢
  obtain⟨es1,t1,wd,gv⟩:=L
  dsimp only at p1 p2 p3 ⊢
  rw [Array.toList_push] at p1
  have hE:∃ls:List K,ls.Perm (ks++[k])/\Paired (Ent knd) es1.toList ls:=by
   obtain⟨ls,l1,l2⟩:=S.ents
   obtain⟨m,m1,m2⟩:=kF p1 (o4 (F:=Ent knd) (x:=(knd.hash k,x)) (y:=k) ⟨hk,rfl,hsc⟩ l2)
   exact⟨m,m1.trans (l1.append_right _),m2⟩
  have nd1:(ks++[k]).Nodup:=by
   rw [JL]
   exact⟨S.nd,by simp,fun y hy z hz e=>hin (by rw [Il] at hz;rw [<-hz,<-e];exact hy)⟩
  have few2:es1.size<scanBound:=by rw [<-Jg,p1.length_eq,Io,Jg];simpa using few1
  have gw:∀(b:Bool) (s₁ : Shared) (Q':Unit->Shared->Prop),Q' () s₁->wpAny (model prog w) A (match b with | true=>rule "set.scan.the-table-gave-way" | false=>pure ()) Q' E s₁:=fun b s₁ Q' hq=>by
   cases b
   ·exact KU hq
   ·exact K5 hq
  refine KS (gw _ _ _ ?_)
  by_cases hp:t1.plain=true
  ·rw [if_pos hp]
   refine KS ?_
   rw [hashByValue_scannable 8 hsc]
   refine KU ?_
   by_cases hv:plainKind x=true
   ·rw [if_pos hv]
    exact pQ gw S hE nd1 few2 p2 p3.2 p3.1 fun h' b Sk=>KU (q h' b Sk)
   ·rw [if_neg hv]
    exact pQ gw S hE nd1 few2 (SetTable.fits_plain_off p2) p3.2 (fun z=>by cases z) fun h' b Sk=>KU (q h' b Sk)
  ·rw [if_neg hp]
   refine KS (KU ?_)
   rw [if_pos rfl]
   exact pQ gw S hE nd1 few2 p2 p3.2 p3.1 fun h' b Sk=>KU (q h' b Sk)
theorem ni {led:Bool} (hl:led = !(w.params.followText "set-order")) (at_:h.get? a=some { cls:=.type "set",dict:=none,data:=.set #[] 0 (.fresh 0 0 led) }):eS knd h a [] :=
 ⟨_,#[],0,_,at_,⟨rfl,rfl,rfl⟩,rfl,⟨[],.refl _,.nil⟩,JS,by decide,by rfl,hl,fun _=>Up.bS (IF _)⟩
end
theorem lX {α : Type}:∀(l:List α) (i:Nat) (h:i<l.length),(l[i]::l.eraseIdx i).Perm l
 | x::l,0,_=>.refl _
 | x::l,i+1,h=>by
  have hi:i<l.length:=by simpa using h
  have ih:=lX l i hi
  show (l[i]::x::l.eraseIdx i).Perm (x::l)
  exact (List.Perm.swap x _ _).trans (ih.cons x)
theorem Ai {α : Type}(f:Nat->Nat):∀(n k:Nat) (l:List α) (out:Array α),l.length=n->(pickOrder.go f n k l out).toList.Perm (out.toList++l):=by
 intro n
 induction n with
 | zero =>
  intro k l out hl
  have:l=[]:=Ku.mp hl
  subst this
  unfold pickOrder.go
  simp
 | succ n ih =>
  intro k l out hl
  unfold pickOrder.go
  have hlt:f k % l.length<l.length:=Nat.mod_lt _ (by omega)
  rw [KO hlt]
  dsimp only
  refine (ih _ _ _ (by rw [List.length_eraseIdx_of_lt hlt];omega)).trans ?_
  rw [Array.toList_push,Jc]
  refine List.Perm.append_left _ ?_
  exact lX _ _ hlt
theorem iL {α : Type}(f:Nat->Nat)(xs:Array α):(pickOrder f xs).toList.Perm xs.toList:=by
 unfold pickOrder
 have:=Ai f xs.size 0 xs.toList #[] (by simp)
 simpa using this
section
variable {prog:Program}{w:World}{A:Around}{E:Value->Shared->Prop}{s:Shared}
theorem oE {Q:Bool->Shared->Prop} (q:Q (w.params.followText "set-order") s):wpAny (model prog w) A setsByText Q E s:=by
 unfold setsByText
 exact KS (Ln (KU q))
theorem DX {src:Source}{n:Nat}{Q:Nat->Shared->Prop}(hn:n≠0)(q:∀(i:Nat) (d:_),i<n->Q i { s with drawn:=d }):wpAny (model prog w) A (choose src n) Q E s:=by
 intro Γ p hΓ
 show Sem.wp _ _ (.choose src n .pure) _ _ _ _
 rw [Sem.wp_choose]
 exact⟨hn,q _ _ (Nat.mod_lt _ (Nat.pos_of_ne_zero hn))⟩
theorem Gy:∀(n:Nat) (xs:List Nat) (s:Shared) {Q:List Nat->Shared->Prop},xs.length=n->(∀(ys:List Nat) (d:_),ys.Perm xs->Q ys { s with drawn:=d })->wpAny (model prog w) A (drawOrder n xs) Q E s:=by
 intro n
 induction n with
 | zero =>
  intro xs s Q hl q
  have:xs=[]:=Ku.mp hl
  subst this
  unfold drawOrder
  exact KU (q [] s.drawn (.refl _))
 | succ n ih =>
  intro xs s Q hl q
  cases xs with
  | nil=>cases hl
  | cons x0 xs =>
   unfold drawOrder
   refine KS (DX (by simp) fun i d hi=>?_)
   rw [KO hi]
   dsimp only
   refine KS (ih _ _ (by rw [List.length_eraseIdx_of_lt hi];omega) fun ys d' hp=>?_)
   refine KU (q _ d' ?_)
   exact (hp.cons _).trans (lX _ _ hi)
end
section
variable {prog:Program}{w:World}{K:Type}[DecidableEq K]{knd:KeyKind prog w K}
variable {A:Around}{E:Value->Shared->Prop}{s:Shared}{a:Addr}{ks:List K}{o:Obj}{es:Array (Int×Value)}{ep:Nat}{t:SetTable}
theorem Aj {slot i:Nat} {Q:Option (Value×Nat)->Shared->Prop} (S:dN knd s.heap a ks o es ep t) (hb:w.params.followText "set-order" = true)
  (q:Q (((pickOrder (w.params.setOrder a ep) es)[i]?).map fun e=>(e.2,slot)) s):wpAny (model prog w) A (setNext a slot i ep) Q E s:=by
 unfold setNext
 refine KS (Lf S.at_ S.data S.fits ?_)
 dsimp only
 refine KS (oE ?_)
 rw [hb,if_pos rfl]
 rw [if_neg (by simp)]
 unfold setWalk
 refine KS (KS (Lf S.at_ S.data S.fits ?_))
 dsimp only
 refine KS (oE ?_)
 rw [hb,if_pos rfl]
 exact KS (Ln (KU (KU q)))
theorem Ak {slot i:Nat} {Q:Option (Value×Nat)->Shared->Prop} (S:dN knd s.heap a ks o es ep t) (hb:w.params.followText "set-order" = false) (hd:t.plain=true\/es.size<=1) (hs:SetTable.below t.place slot=i)
  (q:Q (match es[i]?,t.place[i]? with | some (_,x),some j=>some (x,j+1) | _,_=>none) s):wpAny (model prog w) A (setNext a slot i ep) Q E s:=by
 unfold setNext
 refine KS (Lf S.at_ S.data S.fits ?_)
 dsimp only
 refine KS (oE ?_)
 rw [hb,if_neg IU]
 refine Lo (fun h=>absurd (show (!t.plain&&decide (es.size > 1))=true from h) ?_) (fun _=>?_)
 ·rcases hd with h | h
  ·rw [h];simp
  ·rw [show decide (es.size > 1)=false by simp;omega];simp
 have hl:t.led=true:=by rw [S.led,hb];rfl
 refine KS ?_
 show wpAny _ _ (if (!t.led&&!es.isEmpty)=true then unsupported "set:maker-not-led" else pure ()) _ _ s
 rw [hl,if_neg (by simp)]
 refine KU ?_
 rw [hs]
 exact KU q
theorem FA {i:Nat}{e:Int×Value}{Q:Value->Shared->Prop}(S:dN knd s.heap a ks o es ep t)(he:es[i]?=some e)(q:Q e.2 s):wpAny (model prog w) A (setNextDrawn a i ep) Q E s:=by
 unfold setNextDrawn
 refine KS (Lf S.at_ S.data S.fits ?_)
 dsimp only
 rw [if_neg (by simp)]
 rw [he]
 exact KU q
theorem slot_next:Slot "set_iterator" "__next__" "set_iterator.__next__" :=
  Slot.of (owner := "set_iterator") (n := "__next__")
    (by rw [typeLookup_type,builtinLookup_eq_fast]
        kernel_rfl)
    (by decide +kernel)
    (by decide +kernel)
    (by decide +kernel)
    (by first
      | exact .inl (by decide +kernel)
      | exact .inr (by decide +kernel))
    (by rw [isSubtype_type]
        kernel_rfl)
theorem entry_next:entryFor table "set_iterator.__next__" = some Builtin.«set_iterator.__next__» :=
 entryFor_of_tree (by kernel_rfl)
theorem tW:Manifest.owners.lookup (String.ofList ['r','o','t','a','r','e','t','i','_','t','e','s'].reverse)=some Manifest.sig_set_iterator:=by
 kernel_rfl
theorem args_next (v:Value):argsOk "set_iterator.__next__" ⟨[v],[]⟩:=by
 unfold argsOk
 rw [signature?_of (id := "set_iterator.__next__") (n:=['_','_','t','x','e','n','_','_']) (o:=['r','o','t','a','r','e','t','i','_','t','e','s'])
  (by kernel_rfl) tW]
 kernel_rfl
end
def fG (h:Heap)(I:Addr)(first:Value)(i:Nat)(a:Addr)(n ep:Nat):Prop :=
 ∃oI,h.get? I=some oI/\oI.cls=.type "set_iterator" /\ oI.data=.fields #[first,.int i 0,.ref a,.int n 0,.int ep 0]
theorem fG.type {s:Shared} {I:Addr} {first:Value} {i:Nat} {a:Addr} {n ep:Nat} (h:fG s.heap I first i a n ep):s.TypeIs (.ref I) "set_iterator" := let ⟨o,e,c,_⟩:=h;⟨o,e,c⟩
theorem fG.keep {h h':Heap}{I:Addr}{first:Value}{i:Nat}{a:Addr}{n ep:Nat}(x:fG h I first i a n ep)(k:∀o,h.get? I=some o->h'.get? I=some o):fG h' I first i a n ep :=
 let ⟨o,e,c⟩:=x;⟨o,k _ e,c⟩
section
variable {prog:Program}{w:World}{K:Type}[DecidableEq K]{knd:KeyKind prog w K}
variable {A:Around}{E:Value->Shared->Prop}{s:Shared}{a I:Addr}{ks:List K}{o:Obj}{es:Array (Int×Value)}{ep:Nat}{t:SetTable}
theorem vS {slot nx i:Nat}{x:Value}{Q:Option Value->Shared->Prop}(hit:fG s.heap I (.int slot 0) i a es.size ep)(S:dN knd s.heap a ks o es ep t)
  (hn:∀(A:Around) (E:Value->Shared->Prop) (Q:Option (Value×Nat)->Shared->Prop),Q (some (x,nx)) s->wpAny (model prog w) A (setNext a slot i ep) Q E s)
  (q:∀h',fG h' I (.int nx 0) (i+1) a es.size ep->IT I s.heap h'->Q (some x) { s with heap:=h' }):wpAny (model prog w) A (pyNext (.ref I)) Q E s:=by
 obtain⟨oI,ho,hc,hd⟩:=id hit
 unfold pyNext
 refine KS (Lc (wpAny_callSpecial?_slot (name:=Str.ofString "__next__") hit.type slot_next (KZ slot_next hit.type entry_next ?_ (args_next _))))
 unfold Builtin.«set_iterator.__next__»
 refine KS (KU ?_)
 refine KS (Lq ho hd ?_)
 dsimp only
 refine KS (Li S.at_ S.data S.fits ?_)
 rw [if_neg (by simp)]
 simp only [JE]
 refine KS (hn _ _ _ ?_)
 dsimp only
 refine KS (K7 ho hd (by simp) ?_)
 have d1:(Obj.mapFields (·.setIfInBounds 0 (rawInt (nx:Int))) oI).data=.fields #[.int nx 0,.int i 0,.ref a,.int es.size 0,.int ep 0]:=by rw [Obj.data_mapFields hd];simp [rawInt]
 have g1:=Jz (Obj.mapFields (·.setIfInBounds 0 (rawInt (nx:Int)))) ho (Obj.isFreed_of_fields (Obj.data_mapFields hd _))
 refine KS (K7 g1 d1 (by simp) ?_)
 refine KU ⟨_,rfl,KU (q _ ⟨_,Jz _ g1 (Obj.isFreed_of_fields (Obj.data_mapFields d1 _)),?_,?_⟩ ((IT.update ..).trans (IT.update ..)))⟩
 ·exact (Obj.cls_mapFields ..).trans ((Obj.cls_mapFields ..).trans hc)
 ·rw [Obj.data_mapFields d1];simp [rawInt]
theorem o5 {Q:Option Value->Shared->Prop}{s0:Shared}(hh:A.handled=none)(hk:∀b o,b≠I->s0.heap.get? b=some o->s.heap.get? b=some o)
  (q:∀h',(∀b o,b≠I->s0.heap.get? b=some o->h'.get? b=some o)->Q none { s with heap:=h' }) :
  wpAny (model prog w) A.in1 (newExc (.type "StopIteration") [] >>= fun e=>(raiseNew e:Sem Fin)) (fun _ _=>False)
   (fun e s'=>wpAny (model prog w) A (isInstance e (.type "StopIteration") >>= fun b=>if b=true then pure none else throw e) Q E s') s:=by
 refine KS ?_
 simp only [newExc,newTuple]
 refine KS (K0 ?_ (by size_fits))
 refine KS (m:=firstArgMember _ _) (wpAny_of_eq (a:=Value.none) (by first | rfl | (simp only [firstArgMember];rfl)) ?_)
 refine K0 ?_ (by size_fits)
 simp only [raiseNew]
 refine KS (wpAny_handled ?_)
 rw [show A.in1.handled=none from hh]
 refine KS (KU (wpAny_throw ?_))
 refine KS (Lh (T := "StopIteration") (b:=true) ⟨_,Ip _ rfl,rfl⟩ isSubtype_stop ?_)
 exact KU (q _ fun b o hb e=>Im _ (Im _ (hk b o hb e)))
theorem xK {slot i:Nat}{Q:Option Value->Shared->Prop}(hh:A.handled=none)(hit:fG s.heap I (.int slot 0) i a es.size ep)(S:dN knd s.heap a ks o es ep t)
  (hn:∀(A:Around) (E:Value->Shared->Prop) (Q:Option (Value×Nat)->Shared->Prop),Q none s->wpAny (model prog w) A (setNext a slot i ep) Q E s)
  (q:∀h',(∀b o,b≠I->s.heap.get? b=some o->h'.get? b=some o)->Q none { s with heap:=h' }):wpAny (model prog w) A (pyNext (.ref I)) Q E s:=by
 obtain⟨oI,ho,hc,hd⟩:=id hit
 unfold pyNext
 refine KS (Lc (wpAny_callSpecial?_slot (name:=Str.ofString "__next__") hit.type slot_next (KZ slot_next hit.type entry_next ?_ (args_next _))))
 unfold Builtin.«set_iterator.__next__»
 refine KS (KU ?_)
 refine KS (Lq ho hd ?_)
 dsimp only
 refine KS (Li S.at_ S.data S.fits ?_)
 rw [if_neg (by simp)]
 simp only [JE]
 refine KS (hn _ _ _ ?_)
 dsimp only
 refine KS (K7 ho hd (by simp) ?_)
 refine KW (o5 (I:=I) (s0:=s) (E:=E) (Q:=Q) hh (fun b o hb e=>(Jt _ _ (Ne.symm hb)).trans e) fun h' k=>q h' k) (fun _ _ z=>z.elim) fun e s' z=>z
theorem BR {T:Addr}{i k:Nat}{oT:Obj}{its:Array Value}{c:Nat}{x:Int×Value}{Q:Option Value->Shared->Prop}(hit:fG s.heap I (.ref T) i a es.size ep)(S:dN knd s.heap a ks o es ep t)
  (hT:s.heap.get? T=some oT) (dT:oT.data=.seq its c) (hk:its[i]?=some (.int k 0)) (hx:es[k]?=some x)
  (q:∀h',fG h' I (.ref T) (i+1) a es.size ep->IT I s.heap h'->Q (some x.2) { s with heap:=h' }):wpAny (model prog w) A (pyNext (.ref I)) Q E s:=by
 obtain⟨oI,ho,hc,hd⟩:=id hit
 unfold pyNext
 refine KS (Lc (wpAny_callSpecial?_slot (name:=Str.ofString "__next__") hit.type slot_next (KZ slot_next hit.type entry_next ?_ (args_next _))))
 unfold Builtin.«set_iterator.__next__»
 refine KS (KU ?_)
 refine KS (Lq ho hd ?_)
 dsimp only
 refine KS (Li S.at_ S.data S.fits ?_)
 rw [if_neg (by simp)]
 refine KS (K2 hT dT ?_)
 dsimp only
 simp only [JE]
 rw [hk]
 dsimp only
 simp only [JE]
 refine KS (FA S hx ?_)
 refine KS (K7 ho hd (by simp) ?_)
 refine KU ⟨_,rfl,KU (q _ ⟨_,Jz _ ho (Obj.isFreed_of_fields (Obj.data_mapFields hd _)),?_,?_⟩ (IT.update ..))⟩
 ·exact (Obj.cls_mapFields ..).trans hc
 ·rw [Obj.data_mapFields hd];simp [rawInt]
theorem DY {T:Addr}{i:Nat}{oT:Obj}{its:Array Value}{c:Nat}{Q:Option Value->Shared->Prop}(hh:A.handled=none)(hit:fG s.heap I (.ref T) i a es.size ep)(S:dN knd s.heap a ks o es ep t)
  (hT:s.heap.get? T=some oT) (dT:oT.data=.seq its c) (hk:its[i]?=none)
  (q:∀h',(∀b o,b≠I->s.heap.get? b=some o->h'.get? b=some o)->Q none { s with heap:=h' }):wpAny (model prog w) A (pyNext (.ref I)) Q E s:=by
 obtain⟨oI,ho,hc,hd⟩:=id hit
 unfold pyNext
 refine KS (Lc (wpAny_callSpecial?_slot (name:=Str.ofString "__next__") hit.type slot_next (KZ slot_next hit.type entry_next ?_ (args_next _))))
 unfold Builtin.«set_iterator.__next__»
 refine KS (KU ?_)
 refine KS (Lq ho hd ?_)
 dsimp only
 refine KS (Li S.at_ S.data S.fits ?_)
 rw [if_neg (by simp)]
 refine KS (K2 hT dT ?_)
 dsimp only
 simp only [JE]
 rw [hk]
 dsimp only
 refine KS (K7 ho hd (by simp) ?_)
 have d1:(Obj.mapFields (·.setIfInBounds 0 (rawInt 0)) oI).data=.fields #[.int 0 0,.int i 0,.ref a,.int es.size 0,.int ep 0]:=by rw [Obj.data_mapFields hd];simp [rawInt]
 have g1:=Jz (Obj.mapFields (·.setIfInBounds 0 (rawInt 0))) ho (Obj.isFreed_of_fields (Obj.data_mapFields hd _))
 refine KS (K7 g1 d1 (by simp) ?_)
 refine KW (o5 (I:=I) (s0:=s) (E:=E) (Q:=Q) hh (fun b o hb e=>(Jt _ _ (Ne.symm hb)).trans ((Jt _ _ (Ne.symm hb)).trans e)) fun h' k=>q h' k) (fun _ _ z=>z.elim) fun e s' z=>z
theorem qR:Slot "set_iterator" "__iter__" "set_iterator.__iter__" :=
  Slot.of (owner := "set_iterator") (n := "__iter__")
    (by rw [typeLookup_type,builtinLookup_eq_fast]
        kernel_rfl)
    (by decide +kernel)
    (by decide +kernel)
    (by decide +kernel)
    (by first
      | exact .inl (by decide +kernel)
      | exact .inr (by decide +kernel))
    (by rw [isSubtype_type]
        kernel_rfl)
theorem wX:entryFor table "set_iterator.__iter__" = some Builtin.«dict_keyiterator.__iter__» :=
 entryFor_alias (id' := "dict_keyiterator.__iter__")
  (by kernel_rfl) rfl
  (by decide +kernel)
  (by kernel_rfl)
theorem yY (v:Value):argsOk "set_iterator.__iter__" ⟨[v],[]⟩:=by
 unfold argsOk
 rw [signature?_of (id := "set_iterator.__iter__") (n:=['_','_','r','e','t','i','_','_']) (o:=['r','o','t','a','r','e','t','i','_','t','e','s'])
  (by kernel_rfl) tW]
 kernel_rfl
theorem nj {first:Value}{i:Nat}{Q:Value->Shared->Prop}{n:Nat}(hit:fG s.heap I first i a n ep)(q:Q (.ref I) s):wpAny (model prog w) A (pyIter (.ref I)) Q E s:=by
 refine wpAny_pyIter_slot hit.type qR (KZ qR hit.type wX ?_ (yY _))
 show wpAny _ _ (ret (.ref I)) _ _ s
 exact KU ⟨_,rfl, "set_iterator",_,hit.type,slot_next.lookup,q⟩
theorem FC (hh:A.handled=none) (hI:a≠I) (hb:w.params.followText "set-order" = true) (nd:True) :
  Walks prog w A I [I,a] [I] es.size (fun i v=>∃e,(pickOrder (w.params.setOrder a ep) es)[i]?=some e/\e.2=v) (fun i h=>fG h I (.int 0 0) i a es.size ep/\dN knd h a ks o es ep t) where
 sub:=fun b hb=>by simp at hb;simp [hb]
 frame:=fun _ _ _ st k=>⟨st.1.keep fun o e=>k I (by simp) o e,st.2.keep fun o e=>k a (by simp) o e⟩
 item:=fun i s Q E hi st q=>by
  have z:(pickOrder (w.params.setOrder a ep) es).size=es.size:=by have:=(iL (w.params.setOrder a ep) es).length_eq;simpa using this
  have g:(pickOrder (w.params.setOrder a ep) es)[i]?=some ((pickOrder (w.params.setOrder a ep) es)[i]'(by omega)):=by simp
  refine vS (slot:=0) (nx:=0) st.1 st.2 (fun A E Q h=>Aj st.2 hb (by rw [g];exact h)) fun h' hit' sb=>?_
  exact q _ h' s.toks ⟨_,g,rfl⟩ ⟨hit',st.2.keep fun o e=>sb.extBut a o hI e⟩ fun b o hb e=>sb.extBut b o (fun z=>hb (by simp [z])) e
 done:=fun s Q E st q=>by
  have z:(pickOrder (w.params.setOrder a ep) es).size=es.size:=by have:=(iL (w.params.setOrder a ep) es).length_eq;simpa using this
  refine xK (slot:=0) hh st.1 st.2 (fun A E Q h=>Aj st.2 hb (by rw [Array.getElem?_eq_none (by omega)];exact h)) fun h' k=>?_
  exact q h' s.toks fun b o hb e=>k b o (fun z=>hb (by simp [z])) e
 self:=fun _ _ _ _ st q=>nj st.1 q
theorem pR {α : Type}{es:Array α}:∀{ys:List Nat},(∀k∈ys,k<es.size)->∀i:Nat,(ys.filterMap fun k=>es[k]?)[i]?=(ys[i]?).bind fun k=>es[k]?
 | [],_,i=>by simp
 | y::ys,h,i=>by
  have hy:es[y]?=some (es[y]'(h y (Iy ..))):=by simp
  rw [JO,hy]
  cases i with
  | zero=>simp
  | succ i =>
   have:=pR (ys:=ys) (fun k hk=>h k (Iz _ hk)) i
   simpa using this
def qS (t:SetTable):Nat->Nat
 | 0=>0
 | i+1=>t.place.getD i 0+1
theorem qT {t:SetTable}(up:Up t.place){i:Nat}(h:i<=t.place.size):SetTable.below t.place (qS t i)=i:=by
 cases i with
 | zero=>exact yW up
 | succ i =>
  have hi:i<t.place.size:=by omega
  have e:t.place[i]?=some (t.place.getD i 0):=by simp [Array.getD,hi]
  exact yV up e
theorem FE (hh:A.handled=none) (hI:a≠I) (hb:w.params.followText "set-order" = false) (hd:t.plain=true\/es.size<=1) (hf:t.fits es.size=true) (hr:Rp t) :
  Walks prog w A I [I,a] [I] es.size (fun i v=>∃e,es[i]?=some e/\e.2=v) (fun i h=>fG h I (.int (qS t i) 0) i a es.size ep/\dN knd h a ks o es ep t) where
 sub:=fun b hb=>by simp at hb;simp [hb]
 frame:=fun _ _ _ st k=>⟨st.1.keep fun o e=>k I (by simp) o e,st.2.keep fun o e=>k a (by simp) o e⟩
 item:=fun i s Q E hi st q=>by
  have z:t.place.size=es.size:=by simp only [SetTable.fits,Ja,beq_iff_eq] at hf;exact hf.1
  have up:Up t.place:=by
   rcases hd with c | c
   ·exact hr c
   ·exact Up.bS (by omega)
  have g:es[i]?=some es[i]:=by simp [hi]
  have gp:t.place[i]?=some (t.place.getD i 0):=by simp [Array.getD,z,hi]
  refine vS (slot:=qS t i) (nx:=qS t (i+1)) (x:=es[i].2) st.1 st.2 (fun A E Q h=>Ak st.2 hb hd (qT up (by omega)) (by rw [g,gp];exact h)) fun h' hit' sb=>?_
  exact q _ h' s.toks ⟨_,g,rfl⟩ ⟨hit',st.2.keep fun o e=>sb.extBut a o hI e⟩ fun b o hb e=>sb.extBut b o (fun z=>hb (by simp [z])) e
 done:=fun s Q E st q=>by
  have z:t.place.size=es.size:=by simp only [SetTable.fits,Ja,beq_iff_eq] at hf;exact hf.1
  have up:Up t.place:=by
   rcases hd with c | c
   ·exact hr c
   ·exact Up.bS (by omega)
  refine xK (slot:=qS t es.size) hh st.1 st.2 (fun A E Q h=>Ak st.2 hb hd (qT up (by omega)) (by rw [Array.getElem?_eq_none (Ij _)];exact h)) fun h' k=>?_
  exact q h' s.toks fun b o hb e=>k b o (fun z=>hb (by simp [z])) e
 self:=fun _ _ _ _ st q=>nj st.1 q
theorem FF {T:Addr}{oT:Obj}{ys:List Nat}(hh:A.handled=none)(hI:a≠I)(hT:T≠I)(dT:oT.data=.seq (ys.map fun (i:Nat)=>rawInt i).toArray 0)(hp:ys.Perm (IZ es.size)) :
  Walks prog w A I [I,a,T] [I] es.size (fun i v=>∃e,((ys.filterMap fun k=>es[k]?))[i]?=some e/\e.2=v) (fun i h=>fG h I (.ref T) i a es.size ep/\dN knd h a ks o es ep t/\h.get? T=some oT) where
 sub:=fun b hb=>by simp at hb;simp [hb]
 frame:=fun _ _ _ st k=>⟨st.1.keep fun o e=>k I (by simp) o e,st.2.1.keep fun o e=>k a (by simp) o e,k T (by simp) _ st.2.2⟩
 item:=fun i s Q E hi st q=>by
  have hl:ys.length=es.size:=by rw [hp.length_eq,J5]
  have hin:∀k∈ys,k<es.size:=fun k hk=>Jw.mp (hp.mem_iff.mp hk)
  have h1:ys[i]?=some (ys[i]'(by omega)):=by simp
  have hk:ys[i]'(by omega)<es.size:=hin _ (Kn _)
  generalize ys[i]'(by omega)=k at h1 hk
  have hx:es[k]?=some es[k]:=by simp [hk]
  have hv:(ys.filterMap fun k=>es[k]?)[i]?=some es[k]:=by
   rw [pR hin,h1]
   exact hx
  refine BR (k:=k) (x:=es[k]) st.1 st.2.1 st.2.2 dT (by simp [h1,rawInt]) hx fun h' hit' sb=>?_
  exact q _ h' s.toks ⟨_,hv,rfl⟩ ⟨hit',st.2.1.keep fun o e=>sb.extBut a o hI e,sb.extBut T _ hT st.2.2⟩ fun b o hb e=>sb.extBut b o (fun z=>hb (by simp [z])) e
 done:=fun s Q E st q=>by
  have hl:ys.length=es.size:=by rw [hp.length_eq,J5]
  refine DY hh st.1 st.2.1 st.2.2 dT (by simp [hl]) fun h' k=>?_
  exact q h' s.toks fun b o hb e=>k b o (fun z=>hb (by simp [z])) e
 self:=fun _ _ _ _ st q=>nj st.1 q
theorem nq {b x y:Addr}(h:b∈[x,y]):b=x\/b=y:=by simpa using h
theorem BS {b x y z:Addr}(h:b∈[x,y,z]):b=x\/b=y\/b=z:=by simpa using h
theorem yZ:entryFor table "set.__iter__" = some Builtin.«frozenset.__iter__» :=
 entryFor_alias (id' := "frozenset.__iter__")
  (by kernel_rfl) rfl
  (by decide +kernel)
  (by kernel_rfl)
theorem dN.typeIs (S:dN knd s.heap a ks o es ep t):s.TypeIs (.ref a) "set" := ⟨o,S.at_,S.ex.1⟩
theorem wY {Q:Bool->Shared->Prop} (S:dN knd s.heap a ks o es ep t) (q:Q (!(w.params.followText "set-order")&&(!t.plain&&decide (es.size > 1))) s):wpAny (model prog w) A (setDrawn a) Q E s:=by
 unfold setDrawn
 refine KS (Lf S.at_ S.data S.fits ?_)
 dsimp only
 exact KS (oE (KU q))
def Comes (es:Array (Int×Value))(P:Nat->Value->Prop):Prop:=∃l:List (Int×Value),l.Perm es.toList/\P=fun i v=>∃e,l[i]?=some e/\e.2=v
theorem BU {Q:Value->Shared->Prop}(hh:A.handled=none)(S:dN knd s.heap a ks o es ep t)
  (q:∀(I:Addr) (h':Heap) (d:_) (fp:List Addr) (P:Nat->Value->Prop) (St:Nat->Heap->Prop),(∀b o,s.heap.get? b=some o->h'.get? b=some o)->s.heap.objs.size<=I->(∀b∈fp,b<h'.objs.size)->(∀b,h'.objs.size<=b->b∉fp) ->
   (∀b∈fp,b=a\/s.heap.objs.size<=b)->Comes es P->(∀A:Around,A.handled=none->Walks prog w A I fp [I] es.size P St)->St 0 h'->Q (.ref I) { s with heap:=h',drawn:=d }) :
  wpAny (model prog w) A (pyIter (.ref a)) Q E s:=by
 have la:a<s.heap.objs.size:=Ik S.at_
 refine wpAny_pyIter_slot S.typeIs PySem.F.slot_set_iter (KZ PySem.F.slot_set_iter S.typeIs yZ ?_ (PySem.F.args_set_iter_1 _))
 unfold Builtin.«frozenset.__iter__»
 refine KS ?_
 unfold Builtin.Frozenset.slot0
 refine KS (KU ?_)
 refine KU ?_
 refine KS ?_
 unfold Builtin.Frozenset.sizeOf
 refine KS (Li S.at_ S.data S.fits (KU ?_))
 refine KS (wY S ?_)
 cases hb:w.params.followText "set-order" with
 | true =>
  rw [Bool.not_true,Kd,if_neg IU]
  refine KS (KU ?_)
  refine KS (Lx S.at_ S.data S.fits ?_)
  refine KS ?_
  simp only [newFields]
  refine K0 (KU ⟨_,rfl, "set_iterator",_,⟨_,Ip _ rfl,rfl⟩,slot_next.lookup,?_⟩) (by size_fits)
  refine q _ _ s.drawn [s.heap.objs.size,a] _ _ (fun b o e=>Im _ e) (Ij _) (fun b hb=>?_) (fun b hb hm=>?_) (fun b hb=>?_) ⟨_,iL (w.params.setOrder a ep) es,?_⟩ (fun A hh=>FC (knd:=knd) (ks:=ks) (o:=o) (t:=t) hh (Iq la) hb trivial) ⟨⟨_,Ip _ rfl,rfl,rfl⟩,S.keep fun o e=>Im _ e⟩
  ·rw [IL]
   rcases nq hb with e | e
   ·rw [e];exact Jk _
   ·rw [e];exact Jd la
  ·rw [IL] at hb
   rcases nq hm with e | e
   ·rw [e] at hb;exact Kv _ hb
   ·rw [e] at hb;exact IJ _ (IM la (J6 hb))
  ·rcases nq hb with e | e
   ·exact .inr (by rw [e];exact Ij _)
   ·exact .inl e
  ·funext i v;simp
 | false =>
  rw [Bool.not_false,J7]
  by_cases hd:(!t.plain&&decide (es.size > 1))=true
  ·rw [hd,if_pos rfl]
   refine KS (Gy es.size (IZ es.size) s (by simp) fun ys d hp=>?_)
   have hz:(ys.map fun (i:Nat)=>rawInt i).length<=sizeLine:=by rw [Ig,hp.length_eq,J5];exact fits_of_scanBound S.bS
   refine KS (wpAny_newTuple ?_ hz)
   have S1:dN knd (s.heap.push { cls:=.type "tuple",data:=.seq (ys.map fun (i:Nat)=>rawInt i).toArray }) a ks o es ep t:=S.keep fun o e=>Im _ e
   refine KS (Lx S1.at_ S1.data S1.fits ?_)
   refine KS ?_
   simp only [newFields]
   refine K0 (KU ⟨_,rfl, "set_iterator",_,⟨_,Ip _ rfl,rfl⟩,slot_next.lookup,?_⟩) (by size_fits)
   refine q _ _ d [(s.heap.push { cls:=.type "tuple",data:=.seq (ys.map fun (i:Nat)=>rawInt i).toArray }).objs.size,a,s.heap.objs.size] _ _ (fun b o e=>Im _ (Im _ e)) (by rw [IL];exact Jl _) (fun b hb=>?_) (fun b hb hm=>?_) (fun b hb=>?_) ⟨ys.filterMap fun k=>es[k]?,?_,rfl⟩
    (fun A hh=>FF (knd:=knd) (ks:=ks) (o:=o) (t:=t) (oT:={ cls:=.type "tuple",data:=.seq (ys.map fun (i:Nat)=>rawInt i).toArray }) hh (by rw [IL];exact Iq (Jd la)) (by rw [IL];exact Iq (Jk _)) rfl hp) ⟨⟨_,Ip _ rfl,rfl,rfl⟩,S1.keep fun o e=>Im _ e,Im _ (Ip _ rfl)⟩
   ·rw [IL,IL]
    rcases BS hb with e | e | e
    ·rw [e,IL];exact Jk _
    ·rw [e];exact Jd (Jd la)
    ·rw [e];exact Jd (Jk _)
   ·rw [IL,IL] at hb
    rcases BS hm with e | e | e
    ·rw [e,IL] at hb;exact Kv _ hb
    ·rw [e] at hb;exact IJ _ (IM la (J6 (J6 hb)))
    ·rw [e] at hb;exact Kv _ (J6 hb)
   ·rcases BS hb with e | e | e
    ·exact .inr (by rw [e,IL];exact Jl _)
    ·exact .inl e
    ·exact .inr (by rw [e];exact Ij _)
   ·refine (hp.filterMap _).trans ?_
    have:((IZ es.size).filterMap fun k=>es[k]?)=es.toList:=by
     refine List.ext_getElem? fun i=>?_
     rw [pR (fun k hk=>Jw.mp hk)]
     by_cases hi:i<es.size
     ·rw [List.getElem?_range hi];simp
     ·rw [JT (by simp;omega),JT (by simp;omega)];rfl
    rw [this]
  ·rw [if_neg hd]
   refine KS (KU ?_)
   refine KS (Lx S.at_ S.data S.fits ?_)
   refine KS ?_
   simp only [newFields]
   refine K0 (KU ⟨_,rfl, "set_iterator",_,⟨_,Ip _ rfl,rfl⟩,slot_next.lookup,?_⟩) (by size_fits)
   have hd':t.plain=true\/es.size<=1:=by
    cases hp:t.plain with
    | true=>exact .inl rfl
    | false=>right;rw [hp] at hd;simp at hd;exact hd
   refine q _ _ s.drawn [s.heap.objs.size,a] _ _ (fun b o e=>Im _ e) (Ij _) (fun b hb=>?_) (fun b hb hm=>?_) (fun b hb=>?_) ⟨es.toList,.refl _,?_⟩ (fun A hh=>FE (knd:=knd) (ks:=ks) (o:=o) (t:=t) hh (Iq la) hb hd' S.fits S.up) ⟨⟨_,Ip _ rfl,rfl,rfl⟩,S.keep fun o e=>Im _ e⟩
   ·rw [IL]
    rcases nq hb with e | e
    ·rw [e];exact Jk _
    ·rw [e];exact Jd la
   ·rw [IL] at hb
    rcases nq hm with e | e
    ·rw [e] at hb;exact Kv _ hb
    ·rw [e] at hb;exact IJ _ (IM la (J6 hb))
   ·rcases nq hb with e | e
    ·exact .inr (by rw [e];exact Ij _)
    ·exact .inl e
   ·funext i v;simp
theorem BW {Q:Bool->Shared->Prop} (hT:s.TypeIs (.ref a) "set") (q:Q false s):wpAny (model prog w) A (Builtin.List.listLengthHint (.ref a)) Q E s:=by
 unfold Builtin.List.listLengthHint
 refine KS (wpAny_specialOf hT PySem.F.slot_set_len.lookup ?_)
 generalize hid:("set.__len__" : String)=id0
 wp_delta
 rw [show splitId id0=some ("set", "__len__") from by subst hid;decide +kernel]
 subst hid
 refine KS (Lh (T := "set") (b:=true) hT sub_set_self ?_)
 refine Lo (fun hab=>absurd hab (by decide)) (fun _=>?_)
 refine Lo (fun _=>?_) (fun hab=>absurd (by decide +kernel) hab)
 refine KS (Lb hT ?_)
 exact KU q
end
open PySem.Calls PySem.W
section
variable {prog:Program}{w:World}{K:Type}[DecidableEq K]{knd:KeyKind prog w K}
variable {A:Around}{E:Value->Shared->Prop}{s:Shared}{a:Addr}{ks:List K}{o:Obj}{es:Array (Int×Value)}{ep:Nat}{t:SetTable}
theorem wZ {P:Nat->Value->Prop}{got:Array Value}(hc:Comes es P)(hi:ItemsOf P got es.size):∃l:List (Int×Value),l.Perm es.toList/\got.toList=l.map (·.2):=by
 obtain⟨l,hp,rfl⟩:=hc
 refine⟨l,hp,?_⟩
 have hl:l.length=es.size:=by rw [hp.length_eq,Jg]
 refine List.ext_getElem? fun i=>?_
 rw [Iu]
 by_cases h:i<es.size
 ·have e1:got.toList[i]?=some (got[i]'(by rw [hi.1];exact h)):=by simp [hi.1,h]
  obtain⟨e,he,hv⟩:=hi.2 i _ (by rw [<-Km];exact e1)
  rw [e1,he,<-hv];rfl
 ·rw [JT (by rw [Jg,hi.1];omega),JT (by omega)];rfl
theorem y3 {R:Result->Shared->Prop}(hh:A.handled=none)(S:dN knd s.heap a ks o es ep t)(L:Addr)(hLa:L≠a)(hL:s.heap.get? L=some { cls:=.type "list",data:=.seq #[] 0 })(res:Value)
  (fin:∀(g:Heap) (tk:Nat) (d:_) (got:Array Value) (c:Nat),(∀b o,b≠L->s.heap.get? b=some o->g.get? b=some o)->g.get? L=some { cls:=.type "list",dict:=none,data:=.seq got c,slots:=#[] } ->
   (∃l:List (Int×Value),l.Perm es.toList/\got.toList=l.map (·.2))->R (.ok (.ret res)) { s with heap:=g,toks:=tk,drawn:=d }) :
  wpAny (model prog w) A.in1 (Builtin.List.listExtendWith (.ref L) (.ref a) res)
   (fun fin s'=>match fin with | .done f=>R (.ok f) s' | .again c'=>c'.quiet=true/\codeAny (model prog w) A c' R s') (fun e s'=>R (.error e) s') s:=by
 have hz:es.size<=sizeLine:=fits_of_scanBound S.bS
 unfold Builtin.List.listExtendWith
 refine KS (Lb S.typeIs ?_)
 have h1:Builtin.List.listSameRef (.ref L) (.ref a)=false:=by simp [Builtin.List.listSameRef,hLa]
 rw [h1]
 have h2:(Value.type "set" == Value.type "list")=false:=by decide
 have h3:(Value.type "set" == Value.type "tuple")=false:=by decide
 rw [h2,h3]
 rw [if_neg (by decide)]
 refine KS (BU (A:=A.in1) hh S fun I h1 d fp P St keep hI hfp hnew hof hc W st=>?_)
 have hLlt:L<s.heap.objs.size:=Ik hL
 have hLf:L∉fp:=fun hm=>by
  rcases hof L hm with e | e
  ·exact hLa e
  ·exact IJ _ (IM hLlt e)
 have hLI:L≠I:=fun e=>IJ _ (IM hLlt (e ▸ hI))
 have Wk:=W A.in1 hh
 have loop:∀(g:Heap) (c tk:Nat),St 0 g->(∀b o,b≠L->s.heap.get? b=some o->g.get? b=some o)->g.get? L=some { cls:=.type "list",data:=.seq #[] c } ->
   codeAny (model prog w) A (.builtin "list.extend.loop" ⟨[.ref L,.ref I,res],[]⟩) R { s with heap:=g,toks:=tk,drawn:=d }:=by
  intro g c tk st' kp gL
  refine codeAny_extend_loopS Wk.toS hz L hLf res es.size 0 _ #[] c rfl (IF _) st' gL (ItemsOf.nil _) fun s' got c' mv gL' its=>?_
  have e:=Moved.eq_with mv
  rw [e]
  refine fin s'.heap s'.toks d got c' (fun b o hb e=>mv.heap b o (fun hm=>?_) (kp b o hb e)) gL' (wZ hc its)
  rcases Ii.mp hm with e' | hm
  ·exact hb e'
  ·rw [Il] at hm
   subst hm
   exact IJ _ (IM (Ik e) hI)
 have gL1:=keep _ _ hL
 refine KS (KY (BW ⟨o,keep _ _ S.at_,S.ex.1⟩ ?_))
 refine Lo (fun _=>?_) (fun _=>KU ⟨plainId_quiet PySem.F.plain_extend_loop _,loop _ 0 _ st (fun b o _ e=>keep b o e) gL1⟩)
 refine KS (K5 ?_)
 refine KS ?_
 show wpAny _ _ (updateSeq L (·.push .none) >>= fun _=>updateSeq L (·.pop)) _ _ _
 refine KS (wpAny_updateSeq gL1 rfl ?_)
 have gL2:=Jz (Obj.mapSeq (·.push Value.none)) gL1 rfl
 refine wpAny_updateSeq (hz:=by seq_fits) gL2 rfl ?_
 have gL3:=Jz (Obj.mapSeq (·.pop)) gL2 rfl
 refine KU ⟨plainId_quiet PySem.F.plain_extend_loop _,loop _ _ _ ?_ (fun b o hb e=>?_) gL3⟩
 ·refine Wk.frame 0 _ _ st fun b hb o e=>?_
  have hbL:b≠L:=fun h=>hLf (h ▸ hb)
  exact (Jt _ _ (Ne.symm hbL)).trans ((Jt _ _ (Ne.symm hbL)).trans e)
 ·exact (Jt _ _ (Ne.symm hb)).trans ((Jt _ _ (Ne.symm hb)).trans (keep b o e))
theorem qU {G:List Value->Shared->Prop}(calm:A.handled=none)(S:dN knd s.heap a ks o es ep t)
  (fin:∀(g:Heap) (tk:Nat) (d:_) (got:Array Value),(∀b o,s.heap.get? b=some o->g.get? b=some o)->(∃l:List (Int×Value),l.Perm es.toList/\got.toList=l.map (·.2))->s.heap.objs.size<=g.objs.size->G got.toList { s with heap:=g,toks:=tk,drawn:=d }) :
  wpAny (model prog w) A (collect (.ref a)) G E s:=by
 have la:a<s.heap.objs.size:=Ik S.at_
 unfold collect
 refine KS (wpAny_runValue (K3 entry_proto_collect' ?_))
 rw [JC PySem.F.plain_proto_collect _]
 show wpAny _ A.in1 (newList [] >>= fun z=>again (.builtin "list.__iadd__" ⟨[z,.ref a],[]⟩)) _ _ s
 refine KS (K0 (KU ⟨plainId_quiet PySem.F.plain_list_iadd _,K3 entry_list_iadd' ?_⟩))
 rw [JC PySem.F.plain_list_iadd _]
 show wpAny _ A.in1 (Builtin.List.listExtendWith (.ref s.heap.objs.size) (.ref a) (.ref s.heap.objs.size)) _ _ _
 have made:(s.heap.push { cls:=.type "list",data:=.seq ([]:List Value).toArray }).get? s.heap.objs.size=some { cls:=.type "list",data:=.seq #[] 0 }:=Ip _ rfl
 have run:=y3 (A:=A) (s:={ s with heap:=s.heap.push { cls:=.type "list",data:=.seq ([]:List Value).toArray } })
  (R:=fun (z:Result) (t:Shared)=>∃(g:Heap) (tk:Nat) (d:_) (got:Array Value) (c:Nat),z=.ok (.ret (.ref s.heap.objs.size))/\t={ s with heap:=g,toks:=tk,drawn:=d } /\
   (∀b o,s.heap.get? b=some o->g.get? b=some o)/\g.get? s.heap.objs.size=some { cls:=.type "list",dict:=none,data:=.seq got c,slots:=#[] }/\∃l:List (Int×Value),l.Perm es.toList/\got.toList=l.map (·.2))
  calm (S.keep fun o e=>Im _ e) s.heap.objs.size (Ji la) made (.ref s.heap.objs.size)
  (fun g tk d got c kept at_ its=>⟨g,tk,d,got,c,rfl,rfl,fun b o e=>kept b o (Iq (Ik e)) (Im _ e),at_,its⟩)
 refine KW run (fun z t x=>?_) fun z t ⟨_,_,_,_,_,bad,_⟩=>by cases bad
 cases z with
 | done f =>
  obtain⟨g,tk,d,got,c,e,rfl,kept,at_,its⟩:=x
  cases e
  show wpAny _ A (load s.heap.objs.size >>= _) _ _ _
  exact KS (wpAny_load at_ (KU (fin g tk d got kept its (IS (Ik at_)))))
 | again more =>
  refine⟨x.1,K6 x.2 fun z' t' ⟨g,tk,d,got,c,e1,e2,kept,at_,its⟩=>?_⟩
  subst e1 e2
  show wpAny _ A (load s.heap.objs.size >>= _) _ _ _
  exact KS (wpAny_load at_ (KU (fin g tk d got kept its (IS (Ik at_)))))
end
end LS
namespace L2
open PySem PySem.Spec PyProof.Rows LS
theorem w5 {P:Program}{w:World}{i:Int}{v:Value}(h:(aU P w).is (Sum.inl i) v=true):∃t,v=.int i t:=by
 rcases cX (show iX (Sum.inl i) v=true from h) with ⟨j,t,e,rfl⟩ | ⟨x,t,e,rfl⟩
 ·cases e;exact⟨t,rfl⟩
 ·cases e
def qV (m:List Key):List Str:=m.filterMap fun k=>match k with | .inr x=>some x | .inl _=>none
def qW (m:List Key):List Int:=m.filterMap fun k=>match k with | .inl x=>some x | .inr _=>none
theorem Al (ss:List Str):qV (ss.map Sum.inr)=ss:=by
 induction ss with
 | nil=>rfl
 | cons x ss ih=>show x::qV (ss.map Sum.inr)=x::ss;rw [ih]
theorem Am (ss:List Int):qW (ss.map Sum.inl)=ss:=by
 induction ss with
 | nil=>rfl
 | cons x ss ih=>show x::qW (ss.map Sum.inl)=x::ss;rw [ih]
theorem BX {m:List Key}{ss:List Str}(p:m.Perm (ss.map Sum.inr)):m=(qV m).map Sum.inr/\(qV m).Perm ss:=by
 refine⟨?_,by have:=p.filterMap (fun k:Key=>match k with | .inr x=>some x | .inl _=>none);rw [show J8 _ (ss.map Sum.inr)=ss from Al ss] at this;exact this⟩
 have hall:∀k∈m,∃x,k=Sum.inr x:=fun k hk=>by
  obtain⟨x,_,rfl⟩:=Iv.mp (p.mem_iff.mp hk)
  exact⟨x,rfl⟩
 clear p
 induction m with
 | nil=>rfl
 | cons k m ih =>
  obtain⟨x,rfl⟩:=hall k (Iy ..)
  have:=ih fun k hk=>hall k (Iz _ hk)
  show Sum.inr x::m=Sum.inr x::(qV m).map Sum.inr
  rw [<-this]
theorem BY {m:List Key}{ss:List Int}(p:m.Perm (ss.map Sum.inl)):m=(qW m).map Sum.inl/\(qW m).Perm ss:=by
 refine⟨?_,by have:=p.filterMap (fun k:Key=>match k with | .inl x=>some x | .inr _=>none);rw [show J8 _ (ss.map Sum.inl)=ss from Am ss] at this;exact this⟩
 have hall:∀k∈m,∃x,k=Sum.inl x:=fun k hk=>by
  obtain⟨x,_,rfl⟩:=Iv.mp (p.mem_iff.mp hk)
  exact⟨x,rfl⟩
 clear p
 induction m with
 | nil=>rfl
 | cons k m ih =>
  obtain⟨x,rfl⟩:=hall k (Iy ..)
  have:=ih fun k hk=>hall k (Iz _ hk)
  show Sum.inl x::m=Sum.inl x::(qW m).map Sum.inl
  rw [<-this]
section
variable {prog:Program}{w:World}{A:Around}{E:Value->Shared->Prop}{s:Shared}{a:Addr}{ks:List Key}{o:Obj}{es:Array (Int×Value)}{ep:Nat}{t:SetTable}
theorem vT {got:List Value}(S:LS.dN (aU prog w) s.heap a ks o es ep t)(h:∃l:List (Int×Value),l.Perm es.toList/\got=l.map (·.2)):∃m:List Key,m.Perm ks/\Paired (fun v k=>(aU prog w).is k v=true) got m:=by
 obtain⟨l,hp,rfl⟩:=h
 obtain⟨ls,q1,q2⟩:=S.ents
 obtain⟨m,m1,m2⟩:=kF hp q2
 refine⟨m,m1.trans q1,?_⟩
 clear hp q2 m1
 induction m2 with
 | nil=>exact .nil
 | cons r _ ih=>exact .cons r.1 ih
theorem nu:∀{got:List Value} {ss:List Str},Paired (fun v k=>(aU prog w).is k v=true) got (ss.map Sum.inr)->StrsAre got ss
 | _,[],.nil=>.nil
 | _,x::ss,.cons r t=>by
  obtain⟨t',rfl⟩:=kC r
  exact .cons x t' (nu t)
theorem nv:∀{got:List Value} {ss:List Int},Paired (fun v k=>(aU prog w).is k v=true) got (ss.map Sum.inl)->IntsAre got ss
 | _,[],.nil=>.nil
 | _,x::ss,.cons r t=>by
  obtain⟨t',rfl⟩:=w5 r
  exact .cons x t' (nv t)
theorem w6 {ss:List Str}{Q:Value->Shared->Prop}(hh:A.handled=none)(S:LS.dN (aU prog w) s.heap a (ss.map Sum.inr) o es ep t)(h64:ss.length<64)
  (q:∀(h':Heap) (tk:Nat) (d:_) (D:Addr) (out:Array Value) (ss':List Str) (e:Nat),(∀b o,s.heap.get? b=some o->h'.get? b=some o)->s.heap.objs.size<=D->h'.get? D=some { cls:=.type "list",data:=.seq out e } ->
   StrsAre out.toList ss'->ss'.Perm ss->sortedS ss' = true->Q (.ref D) { s with heap:=h',toks:=tk,drawn:=d }) :
  wpAny (model prog w) A (call (.builtin "sorted") [.ref a]) Q E s:=by
 refine Calls.call_function_entry kind_sorted plain_sorted entry_sorted (args_sorted1 _) ?_
 unfold Builtin.«sorted»
 refine KS (m:=checkCount "sorted" 1 1 _) (KU ?_)
 refine KS (qU (A:=A.in1) hh S fun h' tk d acc hkeep hacc hsz=>?_)
 obtain⟨m,m1,m2⟩:=vT S hacc
 obtain⟨e1,p1⟩:=BX m1
 rw [e1] at m2
 have hS:=nu m2
 have hl:acc.toList.length<64:=by rw [m2.length,Ig,p1.length_eq];exact h64
 refine KS (wpAny_newList ?_ (Ir (IS hl) (by decide)))
 have hoL:(h'.push (seqObj "list" acc.toList.toArray 0)).get? h'.objs.size=some (seqObj "list" acc.toList.toArray 0):=Ip _ rfl
 refine KS (KY (KZ slot_list_sort ⟨_,hoL,rfl⟩ entry_list_sort (list_sort_treeK strKind_oneLt hoL hS.keysOf (fun v₁ v₂ rest e=>keyKind_strs (by rw [<-e];exact hS)) hl fun st' a1 a2=>⟨_,rfl,?_⟩) (args_list_sort _)))
 obtain⟨ss',b1,b2,b3⟩:=sorted_out_str hS a1 a2
 obtain⟨e,he⟩:=sortedHeap_at (out:=(arrOf st').map (·.2)) hoL
 refine KU ⟨_,rfl,q _ tk d _ _ ss' e (fun b o ho=>?_) hsz he b1 (b2.trans p1) b3⟩
 have h1:=hkeep b o ho
 have hlt:=Ik h1
 rw [sortedHeap_old (Iq hlt) (by rw [size_push'];exact Jd hlt)]
 exact Im _ h1
theorem w9 {ss:List Int}{Q:Value->Shared->Prop}(hh:A.handled=none)(S:LS.dN (aU prog w) s.heap a (ss.map Sum.inl) o es ep t)(h64:ss.length<64)
  (q:∀(h':Heap) (tk:Nat) (d:_) (D:Addr) (out:Array Value) (ss':List Int) (e:Nat),(∀b o,s.heap.get? b=some o->h'.get? b=some o)->s.heap.objs.size<=D->h'.get? D=some { cls:=.type "list",data:=.seq out e } ->
   IntsAre out.toList ss'->ss'.Perm ss->ss'.Pairwise (· <= ·)->Q (.ref D) { s with heap:=h',toks:=tk,drawn:=d }) :
  wpAny (model prog w) A (call (.builtin "sorted") [.ref a]) Q E s:=by
 refine Calls.call_function_entry kind_sorted plain_sorted entry_sorted (args_sorted1 _) ?_
 unfold Builtin.«sorted»
 refine KS (m:=checkCount "sorted" 1 1 _) (KU ?_)
 refine KS (qU (A:=A.in1) hh S fun h' tk d acc hkeep hacc hsz=>?_)
 obtain⟨m,m1,m2⟩:=vT S hacc
 obtain⟨e1,p1⟩:=BY m1
 rw [e1] at m2
 have hS:=nv m2
 have hl:acc.toList.length<64:=by rw [m2.length,Ig,p1.length_eq];exact h64
 refine KS (wpAny_newList ?_ (Ir (IS hl) (by decide)))
 have hoL:(h'.push (seqObj "list" acc.toList.toArray 0)).get? h'.objs.size=some (seqObj "list" acc.toList.toArray 0):=Ip _ rfl
 refine KS (KY (KZ slot_list_sort ⟨_,hoL,rfl⟩ entry_list_sort (list_sort_tree hoL hS hl fun out ss' b1 b2 b3=>⟨_,rfl,?_⟩) (args_list_sort _)))
 obtain⟨e,he⟩:=sortedHeap_at (out:=out) hoL
 refine KU ⟨_,rfl,q _ tk d _ _ ss' e (fun b o ho=>?_) hsz he b1 (b2.trans p1) b3⟩
 have h1:=hkeep b o ho
 have hlt:=Ik h1
 rw [sortedHeap_old (Iq hlt) (by rw [size_push'];exact Jd hlt)]
 exact Im _ h1
end
def cT (P:Program)(w:World)(a:Addr)(ks:List Key):HO:=.ext fun h=>eS (aU P w) h a ks
theorem ll {P:Program}{w:World}{H:Hp}{h:Heap}{a:Addr}{ks:List Key}(S:eS (aU P w) h a ks):b6 P w H h a (cT P w a ks) :=
 ⟨S,let ⟨o,_,_,_,S⟩:=S;⟨o,S.at_⟩,fun h1 h2 S k=>S.keep k⟩
section
variable {X:Cx}{pins:List (Addr×Obj)}{Ic : List (Option V)}{H:Hp}{s:Shared}
theorem Inv.sG {a:Addr}{ks:List Key}(I:Inv X pins Ic H s)(h:H a=some (cT X.prog X.w a ks)):eS (aU X.prog X.w) s.heap a ks:=(I.aW a _ h).1
theorem Inv.xM {d:_}(I:Inv X pins Ic H s):Inv X pins Ic H { s with drawn:=d }:=⟨I.ok,I.os,I.bare,I.base,I.loc,I.cell,I.free,I.fD,I.pin,I.aW,I.len⟩
theorem uI (hc:X.calm=true):eO X (.builtin "sorted") (fun vs H Q=>∃(a:Addr) (ss:List Str),vs=[.ref a]/\H a=some (cT X.prog X.w a (ss.map Sum.inr))/\ss.length<64 /\
  ∀(l:Addr) (ss':List Str),ss'.Perm ss->sortedS ss' = true->H l=none->Q (.ref l) (upd H l (.lst (ss'.map V.str)))):=by
 intro pins s Ic H xs us Q I r h
 obtain⟨a,ss,rfl,ha,h64,q⟩:=h
 obtain⟨u,rfl,ru⟩:=vals1 r
 cases (show u=Value.ref a from ru)
 obtain⟨o,es,ep,t,S⟩:=I.sG ha
 refine w6 (I.ok.hd hc) S h64 fun h' tk d D out ss' e hkeep hD he hS hp hs=>?_
 have hv:Vals (ss'.map V.str) out.toList:=oC hS
 refine⟨.ref D,_,(I.xM (d:=d)).laid (t':=tk) (o:=.lst (ss'.map V.str)) hkeep hD (show b6 X.prog X.w _ h' _ (.lst (ss'.map V.str)) from ⟨?_,out.toList,e,hv,by simpa using he⟩),rfl,q D ss' hp hs (I.aW.fresh hD)⟩
 rw [Ig,hp.length_eq]
 exact Ir (IS h64) (by decide)
theorem mI (hc:X.calm=true):eO X (.builtin "sorted") (fun vs H Q=>∃(a:Addr) (ss:List Int),vs=[.ref a]/\H a=some (cT X.prog X.w a (ss.map Sum.inl))/\ss.length<64 /\
  ∀(l:Addr) (ss':List Int),ss'.Perm ss->ss'.Pairwise (· <= ·)->H l=none->Q (.ref l) (upd H l (.lst (ss'.map V.int)))):=by
 intro pins s Ic H xs us Q I r h
 obtain⟨a,ss,rfl,ha,h64,q⟩:=h
 obtain⟨u,rfl,ru⟩:=vals1 r
 cases (show u=Value.ref a from ru)
 obtain⟨o,es,ep,t,S⟩:=I.sG ha
 refine w9 (I.ok.hd hc) S h64 fun h' tk d D out ss' e hkeep hD he hS hp hs=>?_
 have hv:Vals (ss'.map V.int) out.toList:=m7 hS
 refine⟨.ref D,_,(I.xM (d:=d)).laid (t':=tk) (o:=.lst (ss'.map V.int)) hkeep hD (show b6 X.prog X.w _ h' _ (.lst (ss'.map V.int)) from ⟨?_,out.toList,e,hv,by simpa using he⟩),rfl,q D ss' hp hs (I.aW.fresh hD)⟩
 rw [Ig,hp.length_eq]
 exact Ir (IS h64) (by decide)
end
end L2
namespace LS
open PySem PySem.Spec PyProof.Rows L2
section
variable {K:Type}[DecidableEq K]
def putIn (acc:List K)(k:K):List K:=if k∈acc then acc else acc++[k]
def cQ (ms:List K):List K:=ms.foldl putIn []
theorem ja {acc:List K}{k x:K}:x∈putIn acc k↔x∈acc\/x=k:=by
 unfold putIn
 split
 ·rename_i h
  exact⟨.inl,fun z=>z.elim id (fun e=>e ▸ h)⟩
 ·simp
theorem An (acc:List K)(k:K):(putIn acc k).length<=acc.length+1:=by unfold putIn;split <;> simp
theorem vU:∀(ms acc:List K) (x:K),x∈ms.foldl putIn acc↔x∈acc\/x∈ms
 | [],acc,x=>by simp
 | k::ms,acc,x=>by
  rw [JJ,vU ms,ja]
  simp [or_assoc]
theorem kj {ms:List K}{x:K}:x∈cQ ms↔x∈ms:=by unfold cQ;rw [vU];simp
theorem vV:∀(ms acc:List K),(ms.foldl putIn acc).length<=acc.length+ms.length
 | [],acc=>by simp
 | k::ms,acc=>by
  rw [JJ]
  have:=vV ms (putIn acc k)
  have:=An acc k
  simp only [I0];omega
theorem xN:∀(ms acc:List K),acc.Nodup->(ms.foldl putIn acc).Nodup
 | [],acc,h=>h
 | k::ms,acc,h=>by
  rw [JJ]
  refine xN ms _ ?_
  unfold putIn
  split
  ·exact h
  ·rename_i hn
   rw [JL]
   exact⟨h,by simp,fun a ha b hb e=>hn (by rw [Il] at hb;rw [<-hb,<-e];exact ha)⟩
theorem pS (ms:List K):(cQ ms).Nodup:=xN ms [] JS
end
section
variable {prog:Program}{w:World}{A:Around}{E:Value->Shared->Prop}{s:Shared}
theorem vW {k:Key}{v:Value}(h:(aU prog w).is k v=true):v.scannable=true:=by
 rcases cX (show iX k v=true from h) with ⟨j,t,_,rfl⟩ | ⟨x,t,_,rfl⟩ <;> rfl
theorem sH {a:Addr}{ks:List Key}{k:Key}{v:Value}{Q:Bool->Shared->Prop}(hk:(aU prog w).is k v=true)(S:eS (aU prog w) s.heap a ks)(room:ks.length+1<scanBound)
  (q:∀h',IT a s.heap h'->eS (aU prog w) h' a (putIn ks k)->∀c:Bool,Q c { s with heap:=h',toks:=s.toks+1 }):wpAny (model prog w) A (setAdd a v) Q E s:=by
 unfold setAdd
 refine KY ?_
 refine KS ((aU prog w).pyHash hk ?_)
 exact yX (s:={ s with toks:=s.toks+1 }) hk (vW hk) S room fun h' b S'=>q h' b S' _
theorem BZ {a:Addr}{ks:List Key}{k:Key}{v:Value}{Q:Value->Shared->Prop}(hk:(aU prog w).is k v=true)(S:eS (aU prog w) s.heap a ks)(room:ks.length+1<scanBound)
  (q:∀h',IT a s.heap h'->eS (aU prog w) h' a (putIn ks k)->Q .none { s with heap:=h',toks:=s.toks+1 }):wpAny (model prog w) A (call (.builtin "set.add") [.ref a,v]) Q E s:=by
 refine KZ PySem.F.slot_set_add S.setOf.typeIs PySem.F.entry_set_add ?_ (PySem.F.args_set_add_2 _ _)
 unfold Builtin.«set.add» Builtin.Frozenset.oneOther
 simp only [List.isEmpty_nil,bind_assoc]
 unfold Builtin.Frozenset.addrOf
 refine KS (KU ?_)
 refine KS (KU ?_)
 refine KS (sH hk S room fun h' b S' _=>?_)
 exact KU ⟨_,rfl,q h' b S'⟩
theorem Ao {I L:Addr}{fp wr:List Addr}{G:Array GenState->Array GenState->Prop}{n:Nat}{P:Nat->Value->Prop}{St:Nat->Shared->Prop}{R:Result->Shared->Prop}(W:WalksS prog w A.in1 I fp wr G n P St)(hLf:L∉fp)
  (ms:List Key) (hl:ms.length=n) (hm:∀i v,P i v->∃k,ms[i]?=some k/\(aU prog w).is k v=true) (hb:n+1<scanBound) :
  ∀(k i:Nat) (s:Shared),n-i=k->i<=n->St i s->eS (aU prog w) s.heap L (cQ (ms.take i)) ->
   (∀s',Moved (L::wr) G s s'->eS (aU prog w) s'.heap L (cQ ms)->R (.ok (.ret .none)) s') ->
   codeAny (model prog w) A (.builtin "set.update.loop" ⟨[.ref L,.ref I],[]⟩) R s:=by
 have hLw:L∉wr:=fun h=>hLf (W.sub _ h)
 intro k
 induction k with
 | zero =>
  intro i s hk hi st S q
  have e:i=n:=by omega
  subst e
  refine K3 PyProof.Rows.F.entry_set_update_loop ?_
  rw [JC PyProof.Rows.F.plain_set_update_loop _]
  show wpAny _ A.in1 (pyNext (.ref I) >>= _) _ _ s
  refine KS (W.done s _ _ st fun s' mv=>?_)
  refine KU (q s' (mv.mono fun b hb=>Iz _ hb) ?_)
  rw [KN (by omega)] at S
  exact S.keep fun o e=>mv.heap L _ hLw e
 | succ k ih =>
  intro i s hk hi st S q
  have hlt:i<n:=by omega
  refine K3 PyProof.Rows.F.entry_set_update_loop ?_
  rw [JC PyProof.Rows.F.plain_set_update_loop _]
  show wpAny _ A.in1 (pyNext (.ref I) >>= _) _ _ s
  refine KS (W.item i s _ _ hlt st fun v s' hP st' mv=>?_)
  obtain⟨key,hkey,his⟩:=hm i v hP
  have S':eS (aU prog w) s'.heap L (cQ (ms.take i)):=S.keep fun o e=>mv.heap L _ hLw e
  refine KS (KY (sH his S' ?_ fun h' sb S2 _=>?_))
  ·have h1:=vV (ms.take i) []
   have h2:(ms.take i).length<=i:=by rw [IH];omega
   have h3:(cQ (ms.take i)).length<=0+(ms.take i).length:=h1
   omega
  ·have e1:putIn (cQ (ms.take i)) key=cQ (ms.take (i+1)):=by
    unfold cQ
    rw [IP,hkey,J9];rfl
   rw [e1] at S2
   refine KU ⟨plainId_quiet PyProof.Rows.F.plain_set_update_loop _,ih (i+1) _ (by omega) hlt (W.frame _ s' _ _ st' (Jl _) fun b hb o e=>?_) S2 fun s'' mv2 S3=>?_⟩
   ·rw [sb.2 b (fun h:b=L=>hLf (by rw [<-h];exact hb))];exact e
   ·refine q s'' (Moved.trans W.gtrans ((mv.mono fun b hb=>Iz _ hb).then_heap (Jl _) fun b o hb e=>?_) mv2) S3
    rw [sb.2 b (fun h:b=L=>hb (by rw [h];exact Iy))];exact e
end
theorem lY {α β : Type}{F:α->β->Prop}:∀{l:List α} {m:List β},Paired F l m->∀{i:Nat} {x:α},l[i]?=some x->∃y,m[i]?=some y/\F x y
 | _,_,.nil,i,x,e=>by simp at e
 | _,_,.cons r _,0,x,e=>by simp at e;subst e;exact⟨_,rfl,r⟩
 | _,_,.cons _ t,i+1,x,e=>by simpa using lY t (i:=i) (x:=x) (by simpa using e)
def dn (w:World):Obj:={ cls:=.type "set",dict:=none,data:=.set #[] 0 (.fresh 0 0 (!(w.params.followText "set-order"))) }
section
variable {prog:Program}{w:World}{A:Around}{E:Value->Shared->Prop}{s:Shared}
theorem Ap (rest:List Value) (hc:checkBuiltinCall "set.__new__" ⟨.type "set" :: rest,[]⟩=pure ()) {Q:Value->Shared->Prop} (q:Q (.ref s.heap.objs.size) { s with heap:=s.heap.push (dn w) }) :
  codeAny (model prog w) A (.call (.builtin "set.__new__") ⟨.type "set" :: rest,[]⟩) (wants Q E) s:=by
 refine codeAny_of_tree ?_
 show wpAny _ A.in1 (checkBuiltinCall "set.__new__" ⟨.type "set" :: rest,[]⟩ >>= fun _=>again (.builtin "set.__new__" ⟨.type "set" :: rest,[]⟩)) _ _ s
 refine KS (wpAny_of_eq hc (KU ⟨plainId_quiet PySem.F.plain_set_new _,K3 PySem.F.entry_set_new ?_⟩))
 rw [JC PySem.F.plain_set_new _]
 unfold Builtin.«set.__new__» Builtin.Frozenset.newClass
 have hsub:=sub_set_self
 obtain⟨hp,g,d,tk,os⟩:=s
 dsimp only
 wp_walk
 refine Ln (KU ?_)
 dsimp only
 simp only [newObj]
 refine KS (Lj (KU ?_))
 exact KU q
theorem vX {rest:List Value} {Q:Value->Shared->Prop} (hct:checkTypeCall "set" ⟨rest,[]⟩=pure ()) (hcn:checkBuiltinCall "set.__new__" ⟨.type "set" :: rest,[]⟩=pure ())
  (hci:∀(M:Model) (A:Around) (E:Value->Shared->Prop) (s':Shared) (Q':Unit->Shared->Prop),s'.TypeIs (.ref s.heap.objs.size) "set" -> Q' () s'->wpAny M A (checkBuiltinCall "set.__init__" ⟨.ref s.heap.objs.size::rest,[]⟩) Q' E s')
  (init:∀(R:Result->Shared->Prop),(∀h' tk,(∀b o,s.heap.get? b=some o->h'.get? b=some o)->Q (.ref s.heap.objs.size) { s with heap:=h',toks:=tk }->R (.ok (.ret .none)) { s with heap:=h',toks:=tk }) ->
   wpAny (model prog w) A.in1.in1 (Builtin.«set.__init__» ⟨.ref s.heap.objs.size::rest,[]⟩) (fun fin s'=>match fin with | .done f=>R (.ok f) s' | .again c'=>c'.quiet=true/\codeAny (model prog w) A.in1 c' R s') (fun e s'=>R (.error e) s')
    { s with heap:=s.heap.push (dn w) }) :
  wpAny (model prog w) A (call (.type "set") rest) Q E s:=by
 obtain⟨c,tl,hmro⟩:=PySem.F.called_set.mro
 have hmade:=PySem.F.called_set.made
 have hsub:=PySem.F.called_set.sub
 refine wpAny_call (codeAny_of_tree ?_)
 show wpAny _ _ (callAny (.type "set") _) _ _ _
 refine KU ⟨Code.quiet_builtin _ (by decide +kernel),K3 PySem.F.entry_type_call ?_⟩
 rw [Around.under_plain (weight_type_call_type "set" rest []) rfl]
 have h1:=PySem.F.called_set.notType
 have h2:=PySem.F.called_set.canCreate
 repeat (any_goals (first | assumption | wp_step))
 refine K6 (Ap (w:=w) rest hcn (E:=E) (Q:=fun obj s₁=>obj=.ref s.heap.objs.size/\s₁ = { s with heap:=s.heap.push (dn w) }) ⟨rfl,rfl⟩) fun r s₁ hr=>?_
 cases r with
 | error e=>exact hr
 | ok fl =>
  cases fl with
  | ret obj =>
   obtain⟨rfl,rfl⟩:=hr
   have hS:(s.heap.push (dn w)).get? s.heap.objs.size=some (dn w):=Ip _ rfl
   have hT:Shared.TypeIs { s with heap:=s.heap.push (dn w) } (.ref s.heap.objs.size) "set" := ⟨_,hS,rfl⟩
   have hli:=PySem.F.called_set.init.lookup
   have hbi:=PySem.F.called_set.init.bind (.ref s.heap.objs.size)
   repeat (any_goals (first | assumption | wp_step))
   refine K6 (codeAny_call_builtin (R:=wants (fun r s₂=>r=.none/\Q (.ref s.heap.objs.size) s₂) E) PySem.F.called_set.init.plain PySem.F.entry_set_init (hci _ _ _ _ _ hT (init _ fun h' tk _ q=>⟨rfl,q⟩))) fun r₂ s₂ hr₂=>?_
   cases r₂ with
   | error e=>exact hr₂
   | ok fl₂ =>
    cases fl₂ with
    | ret r =>
     obtain⟨rfl,hq⟩:=hr₂
     repeat (any_goals (first | assumption | wp_step))
    | _=>exact hr₂.elim
  | _=>exact hr.elim
theorem Aq {Q:Value->Shared->Prop}(q:∀h',eS (aU prog w) h' s.heap.objs.size []->(∀b o,s.heap.get? b=some o->h'.get? b=some o)->Q (.ref s.heap.objs.size) { s with heap:=h' }):wpAny (model prog w) A (call (.type "set") []) Q E s:=by
 refine vX PySem.F.typeCall_set_0 PySem.F.newCall_set_0 (fun M A E s' Q' hT q'=>check_set_init hT q') fun R fin=>?_
 have hS:(s.heap.push (dn w)).get? s.heap.objs.size=some (dn w):=Ip _ rfl
 have hT:Shared.TypeIs { s with heap:=s.heap.push (dn w) } (.ref s.heap.objs.size) "set" := ⟨_,hS,rfl⟩
 unfold dn at hS hT ⊢
 unfold Builtin.«set.__init__» noKeywords
 wp_walk
 exact fin _ s.toks (fun b o e=>Im _ e) (q _ (ni rfl hS) fun b o e=>Im _ e)
theorem set_list {l:Addr}{items:Array Value}{ms:List Key}{Q:Value->Shared->Prop}(hh:A.handled=none)(hl:s.heap.IsList l items)(hm:Paired (fun v k=>(aU prog w).is k v=true) items.toList ms)(hb:items.size+1<scanBound)
  (q:∀h' tk,eS (aU prog w) h' s.heap.objs.size (cQ ms)->(∀b o,s.heap.get? b=some o->h'.get? b=some o)->Q (.ref s.heap.objs.size) { s with heap:=h',toks:=tk }):wpAny (model prog w) A (call (.type "set") [.ref l]) Q E s:=by
 refine vX (PySem.F.typeCall_set_1 _) (PySem.F.newCall_set_1 _) (fun M A E s' Q' hT q'=>check_set_init_1 hT q') fun R fin=>?_
 have hS:(s.heap.push (dn w)).get? s.heap.objs.size=some (dn w):=Ip _ rfl
 have hT:Shared.TypeIs { s with heap:=s.heap.push (dn w) } (.ref s.heap.objs.size) "set" := ⟨_,hS,rfl⟩
 have hz:(s.heap.push (dn w)).objs.size=s.heap.objs.size+1:=IL _ _
 obtain⟨ol,hol,hcl,nl,hdl⟩:=id hl
 obtain⟨ocls,odict,odata,oslots⟩:=ol
 simp only at hcl hdl
 subst hcl
 subst hdl
 have hol':(s.heap.push (dn w)).get? l=some { cls:=.type "list",dict:=odict,data:=.seq items nl,slots:=oslots }:=Im _ hol
 have hsls:=PySem.F.sub_list_set
 have hslf:=PySem.F.sub_list_frozenset
 have hne:(Value.type "list" == Value.type "dict")=false:=by decide
 have hl1:(s.heap.push (dn w)).IsList l items:=⟨_,hol',rfl,nl,rfl⟩
 have hlS:l<s.heap.objs.size:=Ik hol
 unfold dn at hS hT hz hol' hl1 ⊢
 unfold Builtin.«set.__init__» noKeywords Builtin.Frozenset.updateFrom
 generalize hPI:pyIter=PI
 wp_walk
 subst hPI
 refine Lu hl1 ?_
 refine KS (wpAny_runValue ?_)
 have hh3:A.in1.in1.in1.handled=none:=by simp [hh]
 refine Ao (L:=s.heap.objs.size) ((Walks.list hh3 _ l ?_ items).toS) ?_ ms ?_ (fun i v hv=>?_) hb (items.size-0) 0 _ (by omega) (IF _) ⟨⟨_,Ip _ rfl,rfl,rfl⟩,(hl1.push _)⟩ ?_ fun s' mv S'=>?_
 ·rw [hz];exact Iq (Jd hlS)
 ·rw [hz]
  intro hmem
  rcases nq hmem with e | e
  ·exact absurd e (Iq (Jk _))
  ·exact absurd e (Ji hlS)
 ·rw [<-hm.length,Jg]
 ·have hv':items.toList[i]?=some v:=by rw [Km];exact hv
  exact lY hm hv'
 ·exact ni rfl (Im _ hS)
 ·obtain⟨h',g',d',tk',os'⟩:=s'
  have eg:g' = s.gens:=mv.gens
  have ed:d' = s.drawn:=mv.drawn
  have eo:os' = s.os:=mv.os
  subst eg;subst ed;subst eo
  have kp:∀b o,s.heap.get? b=some o->h'.get? b=some o:=fun b o e=>mv.heap b o (fun hm=>by
   rcases nq hm with e' | e'
   ·exact absurd e' (Iq (Ik e))
   ·rw [hz] at e';exact absurd e' (Iq (Jd (Ik e)))) (Im _ (Im _ e))
  show wpAny _ _ _ _ _ _
  refine KU ?_
  exact KU (fin h' tk' kp (q h' tk' S' kp))
end
end LS
namespace L2
open PySem PySem.Spec PyProof.Rows LS
theorem Ar:bootBuiltins "set" = some (.type "set"):=by decide +kernel
theorem DZ {K:Type}[DecidableEq K]{k:K}{ks:List K}:decide (k∈ks)=true↔k∈ks:=decide_eq_true_iff
theorem oF {P:Program}{w:World}{k:Key}{v:Value}(r:RelV (kV k) v):(aU P w).is k v=true:=by
 cases k with
 | inl i=>obtain⟨t,rfl⟩:=r;exact oV P w i t
 | inr x=>obtain⟨t,rfl⟩:=r;exact oW P w x t
theorem o6 {P:Program}{w:World}:∀{ks:List Key} {us:List Value},Vals (ks.map kV) us->Paired (fun v k=>(aU P w).is k v=true) us ks
 | [],_,.nil=>.nil
 | k::ks,_,.cons r t=>.cons (oF r) (o6 t)
section
variable {X:Cx}
theorem Inv.HS {pins:List (Addr×Obj)}{Ic : List (Option V)}{H:Hp}{s:Shared}{n:Nat}(I:Inv X pins Ic H s):Inv X pins Ic H { s with toks:=n }:=⟨I.ok,I.os,I.bare,I.base,I.loc,I.cell,I.free,I.fD,I.pin,I.aW,I.len⟩
theorem As:eO X (.type "set") (fun vs H Q=>vs=[]/\∀l,H l=none->Q (.ref l) (upd H l (cT X.prog X.w l []))):=by
 intro pins s Ic H xs us Q I r h
 obtain⟨rfl,q⟩:=h
 cases r
 refine Aq fun h' S kp=>?_
 exact⟨.ref s.heap.objs.size,_,I.laid (t':=s.toks) kp (Ij _) (ll S),rfl,q _ I.fresh⟩
theorem Au (hc:X.calm=true):eO X (.type "set") (fun vs H Q=>∃(p:Addr) (ks:List Key),vs=[.ref p]/\aN X.K H p (ks.map kV)/\ks.length+1<scanBound/\∀l,H l=none->Q (.ref l) (upd H l (cT X.prog X.w l (cQ ks)))):=by
 intro pins s Ic H xs us Q I r h
 obtain⟨p,ks,rfl,hp,hz,q⟩:=h
 obtain⟨u,rfl,ru⟩:=vals1 r
 cases (show u=Value.ref p from ru)
 obtain⟨its,hv,pl,_⟩:=I.list hp
 have hm:=o6 (P:=X.prog) (w:=X.w) hv
 refine LS.set_list (I.ok.hd hc) pl.isList (by simpa using hm) (by have:=hm.length;simp at this ⊢;omega) fun h' tk S kp=>?_
 exact⟨.ref s.heap.objs.size,_,I.laid (t':=tk) kp (Ij _) (ll S),rfl,q _ I.fresh⟩
inductive HB (P:Program) (w:World) (neg:Bool) (x:V) (y:V) (H:Hp) (Q:VK):Prop
 | mk (a ks k:_) (_:y=.ref a) (_:H a=some (cT P w a ks)) (_:x=kV k) (_:∀b:Bool,(b=true↔k∈ks)->Q (.bl (if neg then !b else b)) H)
theorem Av:d5 X (compareOp .NotIn) (HB X.prog X.w true):=by
 intro pins s Ic H x y v u Q I rx ry h
 obtain⟨a,ks,k,rfl,ha,rfl,q⟩:=h
 cases ry
 have hk:(aU X.prog X.w).is k v=true:=oF rx
 have S:=(I.sG ha).setOf
 exact wpAny_notInSet_of hk (vW hk) S ⟨.bl _,H,I.HS,rfl,q _ DZ⟩
def HC (P:Program)(w:World)(r:V->List V->Hp->VK->Prop)(to:TE)(t:TA):TE:=fun Ic H Q=>to Ic H fun x H1=>(∃a ks,x=.ref a/\H1 a=some (cT P w a ks))/\t Ic H1 fun xs H2=>r x xs H2 Q
variable {o e:Expr}{es:List Expr}{to:TE}{t:TA}{name:Str}{apos cpos:Pos}{id:String}{r:V->List V->Hp->VK->Prop}
theorem Aw (slot:Slot "set" name id) (hty:typeOf (.builtin id)=pure (.type "method_descriptor")) (hm:zR X id r) (ho:PE X o to) (ha:PA X (e::es) t)
  (hbase:attributeBase o name X.env (eval o X.env)=eval o X.env:=by rfl)
  (hfew:((backTo cpos (starEach (e::es) X.env)).all (fun x=>!x.1)&&(backToKw cpos (keywordEach [] X.env)).all (fun x=>x.1.isSome)
   && decide ((e::es).length+([]:List Keyword).length+(if ([]:List Keyword).isEmpty then 0 else 1)<30))=true:=by rfl)
  (hline:(apos.endLine == cpos.line)=true:=by rfl) (hs:starEach (e::es) X.env=(false,eval e X.env)::starEach es X.env:=by rfl) (hplain:(backTo cpos (starEach es X.env)).any (·.1)=false:=by rfl) :
  PE X (.Call (.Attribute o name apos) (e::es) [] cpos) (HC X.prog X.w r to t):=by
 intro pins s Ic H Q I h
 refine wpAny_Call_method_late hbase hfew hline rfl (br (ho pins s Ic H _ I h) fun v s1 ⟨x,H1,I1,r1,ty,q1⟩=>?_)
 obtain⟨a,ks,rfl,hset⟩:=ty
 cases (show v=Value.ref a from r1)
 have S:=(I1.sG hset).setOf
 refine⟨"set",id,PySem.F.plainAttrs_set,slot,hty,S.typeIs,S.noDict,?_⟩
 have hA:=ha cpos pins s1 Ic H1 _ I1 q1
 rw [hs] at hA ⊢
 refine Calls.callWith_builtin (by show (false||(backTo cpos (starEach es X.env)).any (·.1))=false;rw [hplain] <;> rfl) (Calls.evalArgs_plain ?_)
 exact br hA fun us s2 ⟨vs,H2,I2,r2,q2⟩=>hm pins s2 Ic H2 (.ref a) vs (.ref a) us Q I2 rfl r2 q2
inductive Gz (P:Program) (w:World) (x:V) (vs:List V) (H:Hp) (Q:VK):Prop
 | mk (a ks k:_) (_:x=.ref a) (_:vs=[kV k]) (_:H a=some (cT P w a ks)) (_:ks.length+1<scanBound) (_:Q .aT (upd H a (cT P w a (putIn ks k))))
theorem xO:zR X "set.add" (Gz X.prog X.w):=by
 intro pins s Ic H x xs v us Q I rx r h
 obtain⟨a,ks,k,rfl,rfl,ha,hz,q⟩:=h
 cases (show v=Value.ref a from rx)
 obtain⟨u,rfl,ru⟩:=vals1 r
 refine BZ (oF ru) (I.sG ha) hz fun h' b S'=>?_
 refine⟨.aT,_,I.write (t':=s.toks+1) (x:=a) (e:=a) (by rw [ha];exact trivial) (.inl rfl) (fun c u' hc hu=>b.extBut c u' hc hu) ?_ (ll S'),rfl,q⟩
 obtain⟨o,_,_,_,So⟩:=S'
 exact⟨o,So.at_⟩
end
structure vb (K:Ih) (mg:Str->Option Value) (aD d0 d1 d2 d3 d4:Addr):Prop where
 tab:BL K mg "DEED_PARTS" aD [("put",d0),("copy",d1),("add",d2),("read",d3),("tell",d4)]
 q0:KTup K d0 ["name", "number"]
 q1:KTup K d1 ["name", "name"]
 q2:KTup K d2 ["name", "number"]
 q3:KTup K d3 ["name"]
 q4:KTup K d4 ["name"]
def cJ:cN->List Str
 | .put x _=>[x]
 | .copy x y=>[x,y]
 | .add x _=>[x]
 | .read x=>[x]
 | .tell x=>[x]
def gN:End->List Str
 | .cm _ x _ _ _=>[x]
 | _=>[]
def pNames (p:Piece):List Str:=p.1.flatMap cJ++gN p.2
def bA (ps:List Piece):List Str:=ps.flatMap pNames
def kD:cN->List Str
 | .put ..=>["name", "number"]
 | .copy ..=>["name", "name"]
 | .add ..=>["name", "number"]
 | .read ..=>["name"]
 | .tell ..=>["name"]
def wD:cN->Str
 | .put .. => "put"
 | .copy .. => "copy"
 | .add .. => "add"
 | .read .. => "read"
 | .tell .. => "tell"
theorem y4 (d:cN):∃xs,oA d=.str (wD d)::xs/\xs.length<=1000/\pick "name" xs (kD d)=(cJ d).map V.str:=by
 have h2:¬("number" : Str) = "name" := by decide +kernel
 cases d with
 | put x n=>exact⟨_,rfl,by show 2<=1000;decide,by simp [pick,kD,cJ,h2]⟩
 | copy x y=>exact⟨_,rfl,by show 2<=1000;decide,by simp [pick,kD,cJ]⟩
 | add x n=>exact⟨_,rfl,by show 2<=1000;decide,by simp [pick,kD,cJ,h2]⟩
 | read x=>exact⟨_,rfl,by show 1<=1000;decide,by simp [pick,kD,cJ]⟩
 | tell x=>exact⟨_,rfl,by show 1<=1000;decide,by simp [pick,kD,cJ]⟩
theorem y6 (e:End):∃xs,dm e=.str (wE e)::xs/\xs.length<=1000/\pick "name" xs (kE e)=(gN e).map V.str:=by
 have h1:¬("piece" : Str) = "name" := by decide +kernel
 have h2:¬("number" : Str) = "name" := by decide +kernel
 cases e with
 | stop=>exact⟨[],rfl,by decide,rfl⟩
 | go p=>exact⟨_,rfl,by show 1<=1000;decide,by simp [pick,kE,gN,h1]⟩
 | cm b x n p q=>exact⟨_,rfl,by show 4<=1000;decide,by simp [pick,kE,gN,h1,h2]⟩
theorem lr {k:Str}{d:Addr}{D:List (Str×Addr)}:KTD.datumAt k ((k,d)::D)=some d:=by
 show (if decide (k=k)=true then some d else KTD.datumAt k D)=some d
 rw [if_pos (decide_eq_true rfl)]
theorem e7 {k x:Str}{d:Addr}{D:List (Str×Addr)}{o:Option Addr}(h:¬k=x)(e:KTD.datumAt k D=o):KTD.datumAt k ((x,d)::D)=o:=by
 show (if decide (k=x)=true then some d else KTD.datumAt k D)=o
 rw [if_neg (by rw [decide_eq_false h];decide)]
 exact e
theorem vb.at_ {K:Ih}{mg:Str->Option Value}{aD d0 d1 d2 d3 d4:Addr}(G:vb K mg aD d0 d1 d2 d3 d4)(d:cN) :
  ∃s,KTD.datumAt (wD d) [(("put" : Str),d0),("copy",d1),("add",d2),("read",d3),("tell",d4)]=some s/\KTup K s (kD d):=by
 cases d with
 | put x n=>exact⟨d0,lr,G.q0⟩
 | copy x y=>exact⟨d1,e7 (show ¬(("copy" : Str) = "put") by decide +kernel) lr,G.q1⟩
 | add x n=>exact⟨d2,e7 (show ¬(("add" : Str) = "put") by decide +kernel) (e7 (show ¬(("add" : Str) = "copy") by decide +kernel) lr),G.q2⟩
 | read x=>exact⟨d3,e7 (show ¬(("read" : Str) = "put") by decide +kernel) (e7 (show ¬(("read" : Str) = "copy") by decide +kernel) (e7 (show ¬(("read" : Str) = "add") by decide +kernel) lr)),G.q3⟩
 | tell x=>exact⟨d4,e7 (show ¬(("tell" : Str) = "put") by decide +kernel) (e7 (show ¬(("tell" : Str) = "copy") by decide +kernel) (e7 (show ¬(("tell" : Str) = "add") by decide +kernel) (e7 (show ¬(("tell" : Str) = "read") by decide +kernel) lr))),G.q4⟩
theorem B0 (acc ys:List Str):(ys.map (Sum.inr:Str->Key)).foldl LS.putIn (acc.map Sum.inr)=(ys.foldl LS.putIn acc).map Sum.inr:=by
 induction ys generalizing acc with
 | nil=>rfl
 | cons y ys ih =>
  rw [IK,JJ,JJ,<-ih]
  congr 1
  unfold LS.putIn
  by_cases h:y∈acc
  ·rw [if_pos h,if_pos (Iv.mpr ⟨y,h,rfl⟩)]
  ·rw [if_neg h,if_neg (fun z=>by obtain⟨x,hx,e⟩:=Iv.mp z;cases e;exact h hx),Iw];rfl
theorem y7 (ys:List Str):cQ (ys.map (Sum.inr:Str->Key))=(cQ ys).map Sum.inr:=B0 [] ys
theorem Ea (ys:List Str):(ys.map (Sum.inr:Str->Key)).map kV=ys.map V.str:=by rw [Js];rfl
theorem km {xs:List Str}{m:Nat}{ps:List Piece}(ok:cI xs m ps):∀x∈bA ps,x∈xs:=fun x hx=>by
 obtain⟨p,hp,hx⟩:=JM.mp hx
 rcases IC.mp hx with h | h
 ·obtain⟨d,hd,h⟩:=JM.mp h
  have dk:=(ok.fe p hp).2 d hd
  cases d with
  | put a n=>rw [Il.mp h];exact dk.1
  | copy a b =>
   rcases Ii.mp h with rfl | h
   ·exact dk.1
   ·rw [Il.mp h];exact dk.2
  | add a n=>rw [Il.mp h];exact dk.1
  | read a=>rw [Il.mp h];exact dk
  | tell a=>rw [Il.mp h];exact dk
 ·have ek:=ok.ends p hp
  obtain⟨ds,e⟩:=p
  cases e with
  | stop=>cases h
  | go q=>cases h
  | cm b a n q r=>rw [Il.mp h];exact ek.1
theorem kn {α β : Type}{l:List α}{f:α->List β}{i:Nat}{x:α}(h:l[i]?=some x):(l.take (i+1)).flatMap f=(l.take i).flatMap f++f x:=by
 rw [IP,h,List.flatMap_append];simp
theorem mJ {α β : Type}{l:List α}{f:α->List β}(i:Nat):((l.take i).flatMap f).length<=(l.flatMap f).length:=by
 conv=>rhs;rw [<-List.take_append_drop i l,List.flatMap_append,Io]
 exact JB _ _
inductive tX  (vs:List V) (H:Hp) (Q:VK) (_:XK):Prop
 | mk (plv:V) (ps:List Piece) (xs:List Str) (m:Nat) (_:vs=[plv]) (_:aL H plv (bK ps)) (_:cI xs m ps) (_:xs.length<64) (_:(bA ps).length<=4000) (_:∀(t:Addr) (ss:List Str) (H':Hp),H' t=some (.tup (ss.map V.str))->ss.Perm (cQ (bA ps))->sortedS ss=true->ss.length<64->ae H H'->Q (.ref t) H')
theorem pT {xs:List Str}{m:Nat}{ps:List Piece}(ok:cI xs m ps):(cQ (bA ps)).length<=xs.length :=
 sub_len (pS _) fun x hx=>km ok x (kj.mp hx)
end L2
namespace PySem
theorem uJ:typeLookup (.type "tuple") "keys" = pure none:=by rw [typeLookup_type,builtinLookup_eq_fast];kernel_rfl
section
variable {prog:Program}{w:World}{A:Around}{E:Value->Shared->Prop}{s:Shared}
theorem uK {a:Addr}{xs:Array Value}{k:Nat}{sl:Array (Option Value)}{name:Str}{u:Tok}{Q:Value->Shared->Prop}(hx:s.heap.get? a=some { cls:=.type "tuple",dict:=none,data:=.seq xs k,slots:=sl })
  (miss:typeLookup (.type "tuple") name=pure none) (plain:(["__module__", "__name__", "__qualname__", "__doc__", "__annotations__"]:List Str).contains name=false) (calm:A.handled=none) (fits:name.length+100<=sizeLine)
  (fin:∀g tk e,Heap.NewExcOf s.heap g e "AttributeError" -> E (.ref e) { s with heap:=g,toks:=tk }):wpAny (model prog w) A (getAttrBy (.ref a) (.str name u) false) Q E s:=by
 obtain⟨hp,gs,dr,tk,os⟩:=s
 have hT:∀tk',(⟨hp,gs,dr,tk',os⟩:Shared).TypeIs (.ref a) "tuple" := fun _=>⟨_,hx,rfl⟩
 have f1:=sub_AttributeError
 have f3:=F.slot_tuple_getattribute.lookup
 have f4:=F.slot_tuple_getattribute.bind (.ref a)
 have f5:=am_tuple_getattr_none
 unfold getAttrBy
 repeat (any_goals (first | exact hT _ | assumption | ((with_reducible show wpAny _ _ (call (Value.builtin "tuple.__getattribute__") _ _) _ _ _);refine call_meets F.slot_tuple_getattribute (hT _) am_entry_tuple_getattribute (F.args_tuple_getattribute_2 _ _) (meets_getattribute_miss_tuple a xs k sl name _ miss plain fits) ⟨hx,calm,fun g t e ne=>?_⟩) | wp_step))
 obtain⟨t',u',there⟩:=ne.there
 show wpAny _ _ (getattributeRaised _ _ _ _ _ _ _) _ _ _
 unfold getattributeRaised
 repeat (any_goals (first | wp_step | assumption))
 exact fin g _ e ne.of
theorem qX {a:Addr}{xs:Array Value}{k:Nat}{sl:Array (Option Value)}{Q:Option Value->Shared->Prop}(hx:s.heap.get? a=some { cls:=.type "tuple",dict:=none,data:=.seq xs k,slots:=sl })(calm:A.handled=none)
  (fin:∀g tk,(∀b o,s.heap.get? b=some o->g.get? b=some o)->Q none { s with heap:=g,toks:=tk }):wpAny (model prog w) A (getAttr? (.ref a) "keys") Q E s:=by
 unfold getAttr? getAttrBy?
 refine KS (wpAny_mkText ?_)
 refine KS (Lc ?_)
 refine uK (s:={ s with toks:=s.toks+1 }) hx uJ (by decide +kernel) calm (by decide +kernel) fun g tk e ne=>?_
 obtain⟨ob,vs,he,hc,_⟩:=ne.there
 have hT:({ s with heap:=g,toks:=tk }:Shared).TypeIs (.ref e) "AttributeError" := ⟨ob,he,hc⟩
 refine KS (Lh hT sub_AttributeError ?_)
 exact KU (fin g tk ne.keeps)
end
end PySem
namespace PySem
theorem lB:entryFor table "dict.update.loop" = some Builtin.«dict.update.loop»:=entryFor_of_tree (by kernel_rfl)
theorem gy:plainId "dict.update.loop" = true:=by decide +kernel
section
variable {prog:Program}{w:World}{K:Type}[DecidableEq K]{knd:KeyKind prog w K}{A:Around}{s:Shared}
def vY (knd:KeyKind prog w K)(h:Heap)(q:Addr)(p:K×Value):Prop:=∃key n sl,h.get? q=some { cls:=.type "tuple",dict:=none,data:=.seq #[key,p.2] n,slots:=sl }/\knd.is p.1 key=true
theorem uL {E:Value->Shared->Prop}{q:Addr}{x y:Value}{n:Nat}{sl:Array (Option Value)}{Q:List Value->Shared->Prop}(hq:s.heap.get? q=some { cls:=.type "tuple",dict:=none,data:=.seq #[x,y] n,slots:=sl })
  (fin:Q [x,y] s):wpAny (model prog w) A (Builtin.Dict.pairItems (.ref q)) Q E s:=by
 have hT:s.TypeIs (.ref q) "tuple" := ⟨_,hq,rfl⟩
 unfold Builtin.Dict.pairItems
 refine KS (Lb hT ?_)
 rw [if_pos (by decide)]
 unfold seqItems?
 obtain⟨hp,gs,dr,tk,os⟩:=s
 repeat (any_goals (first | wp_step | assumption))
theorem y8 {E:Value->Shared->Prop}{d I ax:Addr}{items:Array Value}{rs:List (K×Value)}{R:Result->Shared->Prop}{h0:Heap}(calm:A.handled=none)(ndI:d≠I)(nda:d≠ax)(nax:ax≠I)(len:rs.length=items.size)(bS:rs.length<=sizeLine)
  (pairs:∀(i:Nat) (p:K×Value),rs[i]?=some p->∃q,items[i]?=some (.ref q)/\q≠d/\q≠I/\vY knd h0 q p)
  (fin:∀(g:Heap) (tk:Nat),g.DictOf knd d (merged [] rs)->(∀b o,b≠d->b≠I->h0.get? b=some o->g.get? b=some o)->R (.ok (.ret .none)) { s with heap:=g,toks:=tk }) :
  ∀(m i:Nat) (h:Heap) (tk:Nat) (t:Tok),rs.length-i=m->i<=rs.length->h.IsTupleIter I ax i->h.IsTuple ax items->h.DictOf knd d (merged [] (rs.take i))->(∀b o,b≠d->b≠I->h0.get? b=some o->h.get? b=some o) ->
   codeAny (model prog w) A (.builtin "dict.update.loop" ⟨[.ref d,.ref I,.int i t,.none],[]⟩) R { s with heap:=h,toks:=tk }:=by
 have W:=Walks.tuple (prog:=prog) (w:=w) (A:=A.in1) calm I ax nax items
 intro m
 induction m with
 | zero =>
  intro i h tk t em hi it ta dd kp
  have ei:i=rs.length:=by omega
  subst ei
  refine K3 lB ?_
  rw [JC gy _]
  show wpAny _ A.in1 (pyNext (.ref I) >>= _) _ _ _
  refine KS (W.done { s with heap:=h,toks:=tk } _ _ ⟨by rw [<-len];exact it,ta⟩ fun g tk' kg=>?_)
  show wpAny _ A.in1 (Builtin.Dict.addKeywords d [] >>= fun _=>ret Value.none) _ _ _
  refine KS (KU ?_)
  refine KU (fin g tk' ?_ fun b o n1 n2 e=>kg b o (by simpa using n2) (kp b o n1 n2 e))
  rw [II] at dd
  obtain⟨ob,es,ep,ho,rest⟩:=dd
  exact⟨ob,es,ep,kg d ob (by simpa using ndI) ho,rest⟩
 | succ m ih =>
  intro i h tk t em hi it ta dd kp
  have hlt:i<rs.length:=by omega
  have hp:rs[i]?=some rs[i]:=by simp [hlt]
  generalize rs[i]=p at hp
  obtain⟨q,hq,nqd,nqI,key,n,sl,hqo,hkey⟩:=pairs i p hp
  refine K3 lB ?_
  rw [JC gy _]
  show wpAny _ A.in1 (pyNext (.ref I) >>= _) _ _ _
  refine KS (W.item i { s with heap:=h,toks:=tk } _ _ (by omega) ⟨it,ta⟩ fun v g tk' hv st kg=>?_)
  rw [hq] at hv
  cases hv
  have kp':∀b o,b≠d->b≠I->h0.get? b=some o->g.get? b=some o:=fun b o n1 n2 e=>kg b o (by simpa using n2) (kp b o n1 n2 e)
  refine KS (KY (KS (wpAny_tryCatch (uL (kp' q _ nqd nqI hqo) ?_))))
  have dd':g.DictOf knd d (merged [] (rs.take i)):=by
   obtain⟨ob,es,ep,ho,rest⟩:=dd
   exact⟨ob,es,ep,kg d ob (by simpa using ndI) ho,rest⟩
  refine KY (wpAny_dictSet_pairs hkey dd' (fun g2 dd2 same=>?_) ?_)
  ·refine KU ⟨plainId_quiet gy _,?_⟩
   rw [<-merged_take_succ [] rs i p hp] at dd2
   have k2:∀b o,b≠d->g.get? b=some o->g2.get? b=some o:=fun b o nb e=>(same.2 b nb).trans e
   refine ih (i+1) g2 _ _ (by omega) hlt ?_ ?_ dd2 fun b o n1 n2 e=>k2 b o n1 (kp' b o n1 n2 e)
   ·exact st.1.at fun o e=>k2 I o ndI.symm e
   ·exact st.2.at fun o e=>k2 ax o nda.symm e
  ·have e:=merged_length_le ([]:List (K×Value)) (rs.take i)
   rw [IH] at e
   simp only [Kq] at e
   omega
open PySem.Calls in
theorem uM {E:Value->Shared->Prop}{ax:Addr}{items:Array Value}{na:Nat}{sa:Array (Option Value)}{rs:List (K×Value)}{Q:Value->Shared->Prop}(calm:A.handled=none)
  (hx:s.heap.get? ax=some { cls:=.type "tuple",dict:=none,data:=.seq items na,slots:=sa }) (len:rs.length=items.size) (bS:rs.length<=sizeLine)
  (pairs:∀(i:Nat) (p:K×Value),rs[i]?=some p->∃q,items[i]?=some (.ref q)/\vY knd s.heap q p)
  (fin:∀(g:Heap) (tk:Nat),g.DictOf knd s.heap.objs.size (merged [] rs)->(∀b o,s.heap.get? b=some o->g.get? b=some o)->Q (.ref s.heap.objs.size) { s with heap:=g,toks:=tk }) :
  wpAny (model prog w) A (call (.type "dict") [.ref ax]) Q E s:=by
 refine callType_codes (Q₁:=fun ob s1=>ob=.ref s.heap.objs.size/\s1={ s with heap:=s.heap.push { cls:=.type "dict",data:=.dict #[] } }) F.kt_called_dict (F.kt_typeCall_dict_1 _) F.entry_dict_init (kt_code_dict_new _ ⟨rfl,rfl⟩) fun ob s1 e1=>?_
 obtain⟨rfl,rfl⟩:=e1
 have fresh:(s.heap.push { cls:=.type "dict",data:=.dict #[] }).DictOf knd s.heap.objs.size []:=Heap.DictOf.new s.heap
 have hx1:=Im { cls:=.type "dict",data:=.dict #[] } hx
 refine⟨fresh.typeIs,F.args_dict_init_2 _ _,?_⟩
 have hT:({ s with heap:=s.heap.push { cls:=.type "dict",data:=.dict #[] } }:Shared).TypeIs (.ref ax) "tuple" := ⟨_,hx1,rfl⟩
 unfold Builtin.«dict.__init__»
 refine KS ?_
 unfold Builtin.Dict.selfAndRest
 refine KS (wpAny_notOrdered_dict fresh.typeIs (KU ?_))
 show wpAny _ _ (Builtin.Dict.updateFrom "dict.__init__" s.heap.objs.size (.ref ax) [] .none) _ _ _
 unfold Builtin.Dict.updateFrom
 refine KS (Lb hT ?_)
 rw [if_pos (by decide)]
 refine KS (qX hx1 calm fun g tk kg=>?_)
 rw [if_pos (show (none:Option Value).isNone=true from rfl)]
 refine KS (K5 ?_)
 have hxg:=kg _ _ hx1
 have hta:g.IsTuple ax items:=⟨_,hxg,rfl,na,rfl⟩
 refine KS (La hta ?_)
 have dg:g.DictOf knd s.heap.objs.size []:=by
  obtain⟨ob,es,ep,ho,rest⟩:=fresh
  exact⟨ob,es,ep,kg _ _ ho,rest⟩
 have ltd:s.heap.objs.size<g.objs.size:=by
  obtain⟨ob,es,ep,ho,rest⟩:=dg
  exact Ik ho
 have lta:ax<g.objs.size:=Ik hxg
 have ltx:ax<s.heap.objs.size:=Ik hx
 have kg':∀b o,s.heap.get? b=some o->(g.push { cls:=.type "tuple_iterator",data:=.fields #[.ref ax,.int 0 0] }).get? b=some o:=fun b o e=>Im _ (kg b o (Im _ e))
 refine KU ⟨plainId_quiet gy _,?_⟩
 refine y8 (E:=E) (knd:=knd) (s:=s) (A:=A.in1) (items:=items) (rs:=rs) (h0:=g.push { cls:=.type "tuple_iterator",data:=.fields #[.ref ax,.int 0 0] }) calm (Iq ltd) (Ji ltx) (Iq lta) len bS (fun i p hp=>?_) (fun g2 tk2 dd2 k2=>⟨rfl,fin g2 tk2 dd2 fun b o e=>k2 b o (Iq (Ik e)) (Iq (Ks (Ik e) ltd)) (kg' b o e)⟩) rs.length 0 _ _ _ (Nat.sub_zero _) (IF _) ⟨_,Ip _ rfl,rfl,rfl⟩ (hta.push _) (dg.push _) fun b o _ _ e=>e
 obtain⟨q,hq,key,n,sl,hqo,hkey⟩:=pairs i p hp
 have hql:=Ik hqo
 exact⟨q,hq,Iq hql,Iq (Ks hql ltd),key,n,sl,kg' q _ hqo,hkey⟩
end
end PySem
namespace L2
open PySem PySem.Spec PyProof.Rows
theorem De:∀(kvs:List (Key×V)) (P:Nat->Key×Value->Prop),(∀(i:Nat) (k:Key) (v:V),kvs[i]?=some (k,v)->∃u,RelV v u/\P i (k,u))->∃rs:List (Key×Value),KV kvs rs/\∀(i:Nat) (p:Key×Value),rs[i]?=some p->P i p
 | [],_,_=>⟨[],.nil,fun i p h=>by simp at h⟩
 | (k,v)::r,P,h=>by
  obtain⟨u,ru,hu⟩:=h 0 k v rfl
  obtain⟨rs,kr,hr⟩:=De r (fun i=>P (i+1)) fun i k' v' e=>h (i+1) k' v' (by simpa using e)
  refine⟨(k,u)::rs,.cons ⟨rfl,ru⟩ kr,fun i p e=>?_⟩
  cases i with
  | zero=>cases (IA.inj e);exact hu
  | succ i=>exact hr i p (by simpa using e)
theorem pU:∀{xs:List V} {us:List Value} {j:Nat} {x:V},Vals xs us->xs[j]?=some x->∃u,us[j]?=some u/\RelV x u
 | _,_,_,_,.nil,e=>by simp at e
 | _,_,0,_,.cons r _,e=>by
  cases (IA.inj e)
  exact⟨_,rfl,r⟩
 | _,_,j+1,x,.cons _ t,e=>by
  obtain⟨u,h1,h2⟩:=pU (j:=j) (x:=x) t (by simpa using e)
  exact⟨u,by simpa using h1,h2⟩
section
variable {X:Cx}
theorem fR (hc:X.calm=true):eO X (.type "dict") (fun vs H Q=>∃(a:Addr) (xs:List V) (kvs:List (Key×V)),vs=[.ref a]/\H a=some (.tup xs)/\xs.length=kvs.length /\
  (∀(i:Nat) (k:Key) (v:V),kvs[i]?=some (k,v)->∃q,xs[i]?=some (.ref q)/\H q=some (.tup [kV k,v]))/\(kvs.map (·.1)).Nodup/\∀d,H d=none->Q (.ref d) (upd H d (.dK kvs))):=by
 intro pins s Ic H vs us Q I r h
 obtain⟨a,xs,kvs,rfl,ha,hl,hp,nd,q⟩:=h
 obtain⟨u,rfl,ru⟩:=vals1 r
 cases (show u=Value.ref a from ru)
 obtain⟨hz,its,rv,⟨c,dct,dat,sl⟩,h1,h2,n,h3,h4⟩:=(show b6 X.prog X.w H s.heap a (.tup xs) from I.aW a _ ha)
 dsimp only at h2 h3 h4
 subst h2 h3 h4
 have hil:its.length=kvs.length:=by rw [<-rv.length];exact hl
 obtain⟨rs,rel,prs⟩:=De kvs (fun i p=>∃q,its.toArray[i]?=some (.ref q)/\vY (aU X.prog X.w) s.heap q p) fun i k v e=>by
  obtain⟨q,e1,e2⟩:=hp i k v e
  obtain⟨_,its2,rv2,⟨c2,dct2,dat2,sl2⟩,g1,g2,n2,g3,g4⟩:=(show b6 X.prog X.w H s.heap q (.tup [kV k,v]) from I.aW q _ e2)
  dsimp only at g2 g3 g4
  subst g2 g3 g4
  obtain⟨key,u2,rfl,rk,ru2⟩:=vals2 rv2
  refine⟨u2,ru2,q,?_,key,n2,sl2,g1,lV rk⟩
  obtain⟨w',hw,rw'⟩:=pU rv e1
  cases (show w' = Value.ref q from rw')
  simpa using hw
 have hkl:kvs.length<=sizeLine:=by rw [<-hl];exact hz
 have ndr:(rs.map (·.1)).Nodup:=by rw [<-rel.keys];exact nd
 refine uM (knd:=aU X.prog X.w) (rs:=rs) (I.ok.hd hc) h1 (by rw [<-rel.length,<-hil];simp) (by rw [<-rel.length];exact hkl) prs fun g tk dd kg=>?_
 rw [merged_nil_of_nodup rs ndr] at dd
 exact⟨.ref s.heap.objs.size,_,I.laid (a:=s.heap.objs.size) (o:=.dK kvs) (t':=tk) kg (Ij _) (ng hkl (beq_eq_false_iff_ne.mpr (Ne.symm (Iq I.big))) rel dd),rfl,q _ (I.aW.fresh (Ij _))⟩
theorem all_range (bs:List Bool):((IZ bs.length).all fun i=>(bs[i]?).getD true)=bs.all id:=by
 rw [JY]
 simp only [JU,Jw]
 constructor
 ·intro h b hb
  obtain⟨i,hi,rfl⟩:=List.getElem_of_mem hb
  have:=h i hi
  simpa [hi] using this
 ·intro h i hi
  have:=h bs[i] (Kn hi)
  simpa [hi] using this
theorem Ax (hc:X.calm=true):eO X (.builtin "all") (fun vs H Q=>∃(p:Addr) (bs:List Bool),vs=[.ref p]/\aN X.K H p (bs.map V.bl)/\Q (.bl (bs.all id)) H):=by
 intro pins s Ic H vs us Q I r h
 obtain⟨p,bs,rfl,hS,q⟩:=h
 obtain⟨u,rfl,ru⟩:=vals1 r
 cases (show u=Value.ref p from ru)
 obtain⟨its,rv,pl,hz⟩:=I.list hS
 have hl:=pl.isList
 have hlt:p<s.heap.objs.size:=by
  obtain⟨_,e,_⟩:=hl
  exact Ik e
 have hsz:its.toArray.size=bs.length:=by
  have:=rv.length
  simp at this
  simp [this]
 refine call_all_walk (Lu hl ?_)
 refine⟨s.heap.objs.size,[s.heap.objs.size,p],[s.heap.objs.size],its.toArray.size,_,_,fun j=>(bs[j]?).getD true,rfl,Walks.list (A:=X.A.in1) (I.ok.hd hc) _ p (Iq hlt) its.toArray,
  ⟨⟨_,Ip _ rfl,rfl,rfl⟩,hl.push _⟩,fun j v t Q' E' hP hQ=>?_,fun g tk hk=>?_⟩
 ·have hj:its[j]?=some v:=by simpa using hP
  have hjl:j<bs.length:=by
   have:=(IE.mp hj).1
   rw [<-rv.length,Ig] at this
   exact this
  have hb:bs[j]?=some bs[j]:=by simp [hjl]
  obtain⟨w',hw,rw'⟩:=pU (j:=j) (x:=V.bl bs[j]) rv (by rw [Iu,hb];rfl)
  rw [hj] at hw
  cases hw
  cases (show v=Value.bool bs[j] from rw')
  have hQ':Q' ((bs[j]?).getD true) t:=hQ
  rw [hb] at hQ'
  exact K4 hQ'
 ·refine⟨.bl (bs.all id),H,?_,?_,q⟩
  ·refine I.kept (t':=tk) fun b o e=>hk b o (fun hm=>?_) (Im _ e)
   rw [Il.mp hm] at e
   exact IJ _ (Ik e)
  ·show _=Value.bool (bs.all id)
   rw [hsz,all_range]
end
def qY (a b:Str):Prop:=a.cps.toList<=b.cps.toList
theorem Ay {a b c:Str}(h:qY a b)(g:qY b c):qY a c:=List.le_trans h g
theorem Ca {a b:Str}(h:qY a b)(g:qY b a):a=b:=by
 have e:a.cps.toList=b.cps.toList:=List.le_antisymm h g
 have e2:a.cps=b.cps:=by rw [<-Array.toArray_toList (xs:=a.cps),e,Array.toArray_toList]
 cases a
 cases b
 cases e2
 rfl
theorem tY:∀(l:List Str) (p:Str),risingS p l=true->(p::l).Pairwise qY
 | [],p,_=>by simp
 | x::r,p,h=>by
  have h':(!ltCps x.cps.toList p.cps.toList&&risingS x r)=true:=h
  rw [Ja,Bool.not_eq_true'] at h'
  have h1:qY p x:=by
   have:=h'.1
   rw [ltCps_eq] at this
   exact of_decide_eq_false this
  have ih:=tY r x h'.2
  refine Jq.cons (fun y hy=>?_) ih
  rcases Ii.mp hy with e | hy
  ·rw [e];exact h1
  ·exact Ay h1 ((Ka.mp ih).1 y hy)
theorem tZ {l:List Str}(h:sortedS l=true):l.Pairwise qY:=by
 cases l with
 | nil=>exact Jq.nil
 | cons x r=>exact tY r x h
structure ko (ss:List Str):Prop where
 pw:ss.Pairwise qY
 nd:ss.Nodup
theorem ko.tail {x:Str}{r:List Str}(h:ko (x::r)):ko r:=⟨(Ka.mp h.pw).2,(Jy.mp h.nd).2⟩
theorem ko.unique:∀{l m:List Str},ko l->ko m->(∀x,x∈l↔x∈m)->l=m
 | [],[],_,_,_=>rfl
 | [],b::m,_,_,h=>absurd ((h b).mpr (Iy ..)) (by simp)
 | a::l,[],_,_,h=>absurd ((h a).mp (Iy ..)) (by simp)
 | a::l,b::m,hl,hm,h=>by
  have e:a=b:=by
   rcases Ii.mp ((h a).mp (Iy ..)) with e | h1
   ·exact e
   ·rcases Ii.mp ((h b).mpr (Iy ..)) with e | h2
    ·exact e.symm
    ·exact Ca ((Ka.mp hl.pw).1 b h2) ((Ka.mp hm.pw).1 a h1)
  subst e
  have na:=(Jy.mp hl.nd).1
  have nb:=(Jy.mp hm.nd).1
  rw [ko.unique hl.tail hm.tail fun x=>⟨fun hx=>?_,fun hx=>?_⟩]
  ·rcases Ii.mp ((h x).mp (Iz _ hx)) with e | h1
   ·exact absurd (by rw [<-e];exact hx) na
   ·exact h1
  ·rcases Ii.mp ((h x).mpr (Iz _ hx)) with e | h1
   ·exact absurd (by rw [<-e];exact hx) nb
   ·exact h1
theorem ko.filter {l:List Str}(h:ko l)(p:Str->Bool):ko (l.filter p):=⟨h.pw.filter p,h.nd.filter p⟩
abbrev Sx:=Option Int×Option Int
def cO:Sx:=(none,none)
structure iM (K:Ih) (mg:Str->Option Value) (aA:Addr):Prop where
 qQ:mg "ALL" = some (.ref aA)
 at_:∃dc n sl,K.lookup aA=some ⟨.type "tuple",dc,.seq #[.none,.none] n,sl⟩
theorem iM.sq {K:Ih}{mg:Str->Option Value}{aA:Addr}(h:iM K mg aA)(H:Hp):ar K H aA [.aT,.aT]:=by
 obtain⟨dc,n,sl,e⟩:=h.at_
 exact .inr ⟨_,#[.none,.none],n,e,rfl,rfl,by decide,.cons rfl (.cons rfl .nil)⟩
def SH (H:Hp)(v:V)(s:Sx):Prop:=∃q,v=.ref q/\H q=some (.tup [vO s.1,vO s.2])
def SV (aA:Addr)(H:Hp)(v:V)(s:Sx):Prop:=SH H v s\/(v=.ref aA/\s=cO)
def dS (s:Sx):PyData:=.tuple [dO s.1,dO s.2]
theorem SH.rd {H:Hp}{v:V}{s:Sx}(h:SH H v s):aL H v (dS s):=by
 obtain⟨q,rfl,e⟩:=h
 exact .tup e (.cons (Fy _) (.cons (Fy _) .nil))
theorem SH.av {H H':Hp}{v:V}{s:Sx}(h:SH H v s)(k:∀p xs,H p=some (.tup xs)->H' p=some (.tup xs)):SH H' v s:=by
 obtain⟨q,e,h⟩:=h
 exact⟨q,e,k _ _ h⟩
theorem SV.av {aA:Addr}{H H':Hp}{v:V}{s:Sx}(h:SV aA H v s)(k:∀p xs,H p=some (.tup xs)->H' p=some (.tup xs)):SV aA H' v s:=h.elim (fun h=>.inl (h.av k)) .inr
theorem SV.sq {K:Ih}{mg:Str->Option Value}{aA:Addr}{H:Hp}{v:V}{s:Sx}(g:iM K mg aA)(h:SV aA H v s):∃q,v=.ref q/\ar K H q [vO s.1,vO s.2]:=by
 rcases h with ⟨q,e,h⟩ | ⟨e,rfl⟩
 ·exact⟨q,e,ar.of h⟩
 ·exact⟨aA,e,g.sq H⟩
theorem oG {H:Hp}{v:V}{o:Option Int}(h:aL H v (dO o)):v=vO o:=by
 cases o with
 | none=>cases h;rfl
 | some i=>exact h.int_inv
structure Tb (aA:Addr) (H:Hp) (kvs:List (Key×V)) (ks:List Str) (T:Str->Sx):Prop where
 keys:kvs.map (·.1)=ks.map Sum.inr
 nd:ks.Nodup
 val:∀x:Str,(b8 kvs (Sum.inr x)=none/\T x=cO/\¬x∈ks)\/(∃v,b8 kvs (Sum.inr x)=some v/\SV aA H v (T x)/\x∈ks)
def cb (T:Str->Sx)(x:Str)(s:Sx):Str->Sx:=fun y=>if y=x then s else T y
theorem Tb.av {aA:Addr}{H H':Hp}{kvs:List (Key×V)}{ks:List Str}{T:Str->Sx}(h:Tb aA H kvs ks T)(k:∀p xs,H p=some (.tup xs)->H' p=some (.tup xs)):Tb aA H' kvs ks T :=
 ⟨h.keys,h.nd,fun x=>(h.val x).elim .inl fun ⟨v,e,s,m⟩=>.inr ⟨v,e,s.av k,m⟩⟩
theorem Tb.put {aA:Addr}{H:Hp}{kvs:List (Key×V)}{ks:List Str}{T:Str->Sx}(h:Tb aA H kvs ks T){v:V}{s:Sx}(x:Str)(hv:SV aA H v s) :
  ∃ks',Tb aA H (putK kvs (Sum.inr x) v) ks' (cb T x s)/\ks'.length<=ks.length+1/\∀y,y∈ks'↔y∈ks\/y=x:=by
 have vals:∀(ks':List Str),(∀y,y∈ks'↔y∈ks\/y=x)->∀y:Str,(b8 (putK kvs (Sum.inr x) v) (Sum.inr y)=none/\cb T x s y=cO/\¬y∈ks')\/(∃u,b8 (putK kvs (Sum.inr x) v) (Sum.inr y)=some u/\SV aA H u (cb T x s y)/\y∈ks'):=by
  intro ks' hk y
  rw [BC]
  unfold cb
  by_cases e:y=x
  ·subst e
   rw [if_pos rfl,if_pos rfl]
   exact .inr ⟨v,rfl,hv,(hk y).mpr (.inr rfl)⟩
  ·rw [if_neg (fun z=>e (Sum.inr.inj z)),if_neg e]
   rcases h.val y with ⟨a,b,c⟩ | ⟨u,a,b,c⟩
   ·exact .inl ⟨a,b,fun z=>((hk y).mp z).elim c e⟩
   ·exact .inr ⟨u,a,b,(hk y).mpr (.inl c)⟩
 rcases tV (kvs:=kvs) (k:=(Sum.inr x:Key)) (v:=v) with ⟨e1,hm⟩ | ⟨e1,hn⟩
 ·have hx:x∈ks:=by
   rw [h.keys] at hm
   obtain⟨y,hy,e⟩:=Iv.mp hm
   cases e
   exact hy
  have hk:∀y,y∈ks↔y∈ks\/y=x:=fun y=>⟨.inl,fun z=>z.elim id fun e=>by rw [e];exact hx⟩
  exact⟨ks,⟨by rw [e1];exact h.keys,h.nd,vals ks hk⟩,Jl _,hk⟩
 ·have hx:¬x∈ks:=fun z=>hn (by rw [h.keys];exact Iv.mpr ⟨x,z,rfl⟩)
  have hk:∀y,y∈ks++[x]↔y∈ks\/y=x:=fun y=>by simp
  refine⟨ks++[x],⟨by rw [e1,h.keys,Iw];rfl,?_,vals _ hk⟩,by simp,hk⟩
  rw [JL]
  refine⟨h.nd,by simp,fun a ha b hb=>?_⟩
  rw [Il] at hb
  subst hb
  exact fun z=>hx (by rw [<-z];exact ha)
def dF (T:Str->Sx)(x:Str):PyData:=.tuple [.str x,dS (T x)]
def FV (H:Hp)(v:V)(T:Str->Sx):Prop:=∃(p:Addr) (xs:List V) (ss:List Str),v=.ref p/\H p=some (.tup xs)/\ko ss/\(∀x,x∈ss↔T x≠cO)/\aR H xs (ss.map (dF T))
def fZ (T:Str->Sx)(ss:List Str):PyData:=.tuple (ss.map (dF T))
theorem lZ (T:Str->Sx):∀ss:List Str,bX (ss.map (dF T))=true
 | []=>rfl
 | x::ss=>by
  show (b0 (dF T x)&&bX (ss.map (dF T)))=true
  rw [lZ T ss]
  show ((true&&((b0 (dO (T x).1)&&(b0 (dO (T x).2)&&true))&&true))&&true)=true
  cases (T x).1 <;> cases (T x).2 <;> rfl
theorem FV.av {H H':Hp}{v:V}{T:Str->Sx}(h:FV H v T)(k:∀p xs,H p=some (.tup xs)->H' p=some (.tup xs)):FV H' v T:=by
 obtain⟨p,xs,ss,e,hp,hs,hm,r⟩:=h
 exact⟨p,xs,ss,e,k _ _ hp,hs,hm,r.av k (lZ T ss)⟩
theorem FV.same {H H':Hp}{v:V}{T:Str->Sx}(h:FV H v T)(s:ae H H'):FV H' v T:=h.av fun p xs e=>s _ _ e
theorem FV.tb {H:Hp}{xs:List V}{T:Str->Sx}{ss:List Str}(aA:Addr)(hs:ko ss)(hm:∀x,x∈ss↔T x≠cO)(r:aR H xs (ss.map (dF T))) :
  ∃kvs:List (Key×V),xs.length=kvs.length/\(∀(i:Nat) (k:Key) (v:V),kvs[i]?=some (k,v)->∃q,xs[i]?=some (.ref q)/\H q=some (.tup [kV k,v]))/\(kvs.map (·.1)).Nodup/\Tb aA H kvs ss T:=by
 have go:∀(ss:List Str) (xs:List V),aR H xs (ss.map (dF T))->∃kvs:List (Key×V),xs.length=kvs.length/\(∀(i:Nat) (k:Key) (v:V),kvs[i]?=some (k,v)->∃q,xs[i]?=some (.ref q)/\H q=some (.tup [kV k,v])) /\
   kvs.map (·.1)=ss.map Sum.inr/\∀x:Str,(b8 kvs (Sum.inr x)=none/\¬x∈ss)\/(∃v,b8 kvs (Sum.inr x)=some v/\SH H v (T x)/\x∈ss):=by
  intro ss
  induction ss with
  | nil =>
   intro xs r
   have z:=aR.nil_inv r
   subst z
   exact⟨[],rfl,fun i k v e=>by simp at e,rfl,fun x=>.inl ⟨rfl,by simp⟩⟩
  | cons y ss ih =>
   intro xs r
   obtain⟨x1,t1,rfl,h1,r⟩:=aR.cons_inv r
   obtain⟨kvs,l1,l2,l3,l4⟩:=ih t1 r
   obtain⟨q,zs,rfl,hq,rz⟩:=aL.bF h1
   obtain⟨z1,t2,rfl,g1,rz⟩:=rz.cons_inv
   obtain⟨z2,t3,rfl,g2,rz⟩:=rz.cons_inv
   have z:=rz.nil_inv
   subst z
   obtain⟨q2,ws,rfl,hq2,rw2⟩:=aL.bF g2
   obtain⟨w1,t4,rfl,f1,rw2⟩:=rw2.cons_inv
   obtain⟨w2,t5,rfl,f2,rw2⟩:=rw2.cons_inv
   have z:=rw2.nil_inv
   subst z
   have e1:w1=vO (T y).1:=oG f1
   have e2:w2=vO (T y).2:=oG f2
   subst e1 e2
   rw [g1.str_inv] at hq
   refine⟨(Sum.inr y,.ref q2)::kvs,by simp [l1],fun i k v e=>?_,by simp [l3],fun x=>?_⟩
   ·cases i with
    | zero=>cases (IA.inj e);exact⟨q,rfl,hq⟩
    | succ i =>
     obtain⟨q',a,b⟩:=l2 i k v (by simpa using e)
     exact⟨q',by simpa using a,b⟩
   ·by_cases e:x=y
    ·subst e
     exact .inr ⟨_,dD rfl,⟨q2,rfl,hq2⟩,Iy ..⟩
    ·rw [di (fun z=>e (Sum.inr.inj z).symm)]
     rcases l4 x with ⟨a,b⟩ | ⟨v,a,b,c⟩
     ·exact .inl ⟨a,fun z=>(Ii.mp z).elim e b⟩
     ·exact .inr ⟨v,a,b,Iz _ c⟩
 obtain⟨kvs,l1,l2,l3,l4⟩:=go ss xs r
 refine⟨kvs,l1,l2,?_,⟨l3,hs.nd,fun x=>?_⟩⟩
 ·rw [l3]
  exact Jq.map _ (fun a b n z=>n (Sum.inr.inj z)) hs.nd
 ·rcases l4 x with ⟨a,b⟩ | ⟨v,a,b,c⟩
  ·refine .inl ⟨a,?_,b⟩
   exact Classical.byContradiction fun z=>b ((hm x).mpr z)
  ·exact .inr ⟨v,a,.inl b,c⟩
theorem sI (s:Sx):PyData.eqv (dS s) (.tuple [.none,.none])=decide (s=cO):=by
 obtain⟨a,b⟩:=s
 cases a <;> cases b <;> rfl
theorem y9 (s:Sx):(dS s).canLay0=true:=by
 obtain⟨a,b⟩:=s
 cases a <;> cases b <;> rfl
theorem Df (s:Sx):(dS s).depth<=60:=by
 obtain⟨a,b⟩:=s
 cases a <;> cases b <;> (show (1:Nat)<=60;decide)
section
variable {X:Cx}
theorem Az {pins:List (Addr×Obj)}{Ic : St}{H:Hp}{s:Shared}{aA:Addr}(I:Inv X pins Ic H s)(g:iM X.K X.mg aA):∃as,Reads s.heap (.ref aA) (.tuple [.none,.none]) as:=by
 obtain⟨dc,n,sl,e⟩:=g.at_
 exact⟨_,.tuple (I.i0 aA _ e) rfl rfl (.cons .none (.cons .none .nil))⟩
theorem FG {aA:Addr}(hu:X.A.units+64<cLine)(g:iM X.K X.mg aA):d5 X (compareOp .NotEq) (fun x y H Q=>∃s,SV aA H x s/\y=.ref aA/\Q (.bl (!decide (s=cO))) H):=by
 intro pins sh Ic H x y v u Q I rx ry h
 obtain⟨s,hs,rfl,q⟩:=h
 cases (show u=Value.ref aA from ry)
 obtain⟨bs,rb⟩:=Az I g
 rcases hs with hs | ⟨rfl,rfl⟩
 ·obtain⟨as,ra⟩:=hs.rd.reads I.aW rx
  refine PySem.SeqAt.neOverData X.prog X.w X.A X.xe sh v _ _ _ as bs _ ra rb (y9 s) rfl (by have:=Df s;omega) ⟨.bl _,H,I,?_,q⟩
  show _=Value.bool (!decide (s=cO))
  rw [sI]
 ·cases (show v=Value.ref aA from rx)
  exact PySem.SeqAt.neOverData X.prog X.w X.A X.xe sh _ _ _ _ bs bs _ rb rb rfl rfl (by show X.A.units+1<cLine;omega) ⟨.bl _,H,I,rfl,q⟩
end
inductive ny (aA:Addr) (vs:List V) (H:Hp) (Q:VK) (_:XK):Prop
 | mk (d:Addr) (kvs:List (Key×V)) (ks:List Str) (T:Str->Sx) (_:vs=[.ref d]) (_:H d=some (.dK kvs)) (_:Tb aA H kvs ks T) (_:ks.length<64) (_:∀v H',FV H' v T->ae H H'->Q v H')
def jU (o:Option Int)(n:Int):Option Int:=o.map (· + n)
def GW (s:Sx)(n:Int):Sx:=(jU s.1 n,jU s.2 n)
def pV (T:Str->Sx):cN->Sx
 | .put _ n=>(some n,some n)
 | .copy _ y=>T y
 | .add x n=>GW (T x) n
 | .read _=>cO
 | .tell x=>T x
def za (T:Str->Sx)(d:cN):Str->Sx:=cb T (ff d) (pV T d)
def bp (T:Str->Sx):List cN->(Str->Sx):=fun ds=>ds.foldl za T
inductive xP (K:Ih) (vs:List V) (H:Hp) (Q:VK) (_:XK):Prop
 | mk (q:Addr) (s:Sx) (n:Int) (_:vs=[.ref q,.int n]) (_:ar K H q [vO s.1,vO s.2]) (_:∀v H',SH H' v (GW s n)->ae H H'->Q v H')
inductive qZ (aA:Addr) (vs:List V) (H:Hp) (Q:VK) (_:XK):Prop
 | mk (d q:Addr) (kvs:List (Key×V)) (ks:List Str) (T:Str->Sx) (dd:cN) (_:vs=[.ref d,.ref q]) (_:H d=some (.dK kvs)) (_:Tb aA H kvs ks T) (_:H q=some (.tup (oA dd))) (_:∀v H',SV aA H' v (pV T dd)->ae H H'->Q v H')
theorem FH:bootBuiltins "all" = some (.builtin "all"):=by decide +kernel
theorem Tb.getD {aA:Addr}{H:Hp}{kvs:List (Key×V)}{ks:List Str}{T:Str->Sx}(h:Tb aA H kvs ks T)(x:Str):∃v,(b8 kvs (Sum.inr x)).getD (.ref aA)=v/\SV aA H v (T x):=by
 rcases h.val x with ⟨a,b,_⟩ | ⟨v,a,b,_⟩
 ·exact⟨_,by rw [a];rfl,.inr ⟨rfl,b⟩⟩
 ·exact⟨v,by rw [a];rfl,b⟩
theorem FI {H:Hp}{v:V}{T:Str->Sx}{y:Str}(h:aL H v (dF T y)):∃t q,v=.ref t/\H t=some (.tup [.str y,.ref q])/\H q=some (.tup [vO (T y).1,vO (T y).2]):=by
 obtain⟨t,zs,rfl,ht,rz⟩:=aL.bF h
 obtain⟨z1,t2,rfl,g1,rz⟩:=rz.cons_inv
 obtain⟨z2,t3,rfl,g2,rz⟩:=rz.cons_inv
 have z:=rz.nil_inv
 subst z
 obtain⟨q2,ws,rfl,hq2,rw2⟩:=aL.bF g2
 obtain⟨w1,t4,rfl,f1,rw2⟩:=rw2.cons_inv
 obtain⟨w2,t5,rfl,f2,rw2⟩:=rw2.cons_inv
 have z:=rw2.nil_inv
 subst z
 rw [g1.str_inv] at ht
 rw [oG f1,oG f2] at hq2
 exact⟨t,q2,rfl,ht,hq2⟩
section
variable {C D:Addr}{H0 H H1:Hp}{w0 w1:WA}{plv:V}{x0 x1 x':Fz}
end
mutual
def fH:PyData->Bool
 | .none=>true
 | .int _=>true
 | .str _=>true
 | .tuple xs=>d7 xs
 | _=>false
def d7:List PyData->Bool
 | []=>true
 | x::xs=>fH x&&d7 xs
end
mutual
def vc:PyData->Nat
 | .tuple xs=>nz xs+1
 | _=>1
def nz:List PyData->Nat
 | []=>0
 | x::xs=>vc x+nz xs
end
noncomputable instance FZ:DecidableEq PyData:=fun a b=>Classical.propDecidable (a=b)
mutual
theorem xQ:∀{a b:PyData},fH a=true->fH b=true->(PyData.eqv a b=true↔a=b)
 | .none,.none,_,_=>⟨fun _=>rfl,fun _=>rfl⟩
 | .int i,.int j,_,_=>by show ((i == j)=true)↔_;rw [beq_iff_eq];exact⟨fun h=>by rw [h],fun h=>by injection h⟩
 | .str x,.str y,_,_=>by show ((x == y)=true)↔_;rw [beq_iff_eq];exact⟨fun h=>by rw [h],fun h=>by injection h⟩
 | .tuple xs,.tuple ys,ha,hb=>by
  show (PyData.eqvAll xs ys=true)↔_
  rw [rh (show d7 xs=true from ha) (show d7 ys=true from hb)]
  exact⟨fun h=>by rw [h],fun h=>by injection h⟩
 | .none,.int _,_,_ | .none,.str _,_,_ | .none,.tuple _,_,_ | .int _,.none,_,_ | .int _,.str _,_,_ | .int _,.tuple _,_,_
 | .str _,.none,_,_ | .str _,.int _,_,_ | .str _,.tuple _,_,_ | .tuple _,.none,_,_ | .tuple _,.int _,_,_ | .tuple _,.str _,_,_=>⟨fun h=>(by cases h),fun h=>(by cases h)⟩
 | .bool _,_,h,_ | .list _,_,h,_ | .dict _,_,h,_=>by cases h
 | .none,.bool _,_,h | .none,.list _,_,h | .none,.dict _,_,h | .int _,.bool _,_,h | .int _,.list _,_,h | .int _,.dict _,_,h
 | .str _,.bool _,_,h | .str _,.list _,_,h | .str _,.dict _,_,h | .tuple _,.bool _,_,h | .tuple _,.list _,_,h | .tuple _,.dict _,_,h=>by cases h
theorem rh:∀{a b:List PyData},d7 a=true->d7 b=true->(PyData.eqvAll a b=true↔a=b)
 | [],[],_,_=>⟨fun _=>rfl,fun _=>rfl⟩
 | x::xs,y::ys,ha,hb=>by
  have ha:(fH x&&d7 xs)=true:=ha
  have hb:(fH y&&d7 ys)=true:=hb
  rw [Ja] at ha hb
  show ((PyData.eqv x y&&PyData.eqvAll xs ys)=true)↔_
  rw [Ja,xQ ha.1 hb.1,rh ha.2 hb.2]
  exact⟨fun ⟨h1,h2⟩=>by rw [h1,h2],fun h=>by injection h with h1 h2;exact⟨h1,h2⟩⟩
 | [],_::_,_,_ | _::_,[],_,_=>⟨fun h=>(by cases h),fun h=>(by cases h)⟩
end
mutual
theorem t9 {h:Heap}:∀{v:Value} {a b:PyData} {as bs:List Addr},Reads h v a as->Reads h v b bs->fH a=true->fH b=true->a=b
 | _,_,_,_,_,.none,.none,_,_=>rfl
 | _,_,_,_,_,.int i t,.int _ _,_,_=>rfl
 | _,_,_,_,_,.str x t,.str _ _,_,_=>rfl
 | _,_,_,_,_,.tuple e1 c1 d1 r1,.tuple e2 c2 d2 r2,ha,hb=>by
  rw [e1] at e2
  cases e2
  rw [d1] at d2
  cases d2
  rw [nB r1 r2 ha hb]
 | _,_,_,_,_,.tuple e1 c1 d1 r1,.list e2 c2 d2 r2,_,hb=>by cases hb
 | _,_,_,_,_,.tuple e1 c1 d1 r1,.dict e2 c2 d2 r2 r3,_,hb=>by cases hb
 | _,_,_,_,_,.bool _,_,ha,_=>by cases ha
 | _,_,_,_,_,.list ..,_,ha,_=>by cases ha
 | _,_,_,_,_,.dict ..,_,ha,_=>by cases ha
theorem nB {h:Heap}:∀{vs:List Value} {a b:List PyData} {as bs:List Addr},ReadsAll h vs a as->ReadsAll h vs b bs->d7 a=true->d7 b=true->a=b
 | _,_,_,_,_,.nil,.nil,_,_=>rfl
 | _,_,_,_,_,.cons (d:=x) (ds:=xs) r1 t1,.cons (d:=y) (ds:=ys) r2 t2,ha,hb=>by
  have ha:(fH x&&d7 xs)=true:=ha
  have hb:(fH y&&d7 ys)=true:=hb
  rw [Ja] at ha hb
  rw [t9 r1 r2 ha.1 hb.1,nB t1 t2 ha.2 hb.2]
end
mutual
theorem rm {h h':Heap}(k:∀a o n vs,h.get? a=some o->o.data=.seq vs n->h'.get? a=some o):∀{v:Value} {a:PyData} {as:List Addr},Reads h v a as->fH a=true->Reads h' v a as
 | _,_,_,.none,_=>.none
 | _,_,_,.int i t,_=>.int i t
 | _,_,_,.str x t,_=>.str x t
 | _,_,_,.tuple e1 c1 d1 r1,ha=>.tuple (k _ _ _ _ e1 d1) c1 d1 (mK k r1 ha)
 | _,_,_,.bool _,ha=>by cases ha
 | _,_,_,.list ..,ha=>by cases ha
 | _,_,_,.dict ..,ha=>by cases ha
theorem mK {h h':Heap}(k:∀a o n vs,h.get? a=some o->o.data=.seq vs n->h'.get? a=some o):∀{vs:List Value} {a:List PyData} {as:List Addr},ReadsAll h vs a as->d7 a=true->ReadsAll h' vs a as
 | _,_,_,.nil,_=>.nil
 | _,_,_,.cons (d:=x) (ds:=xs) r1 t1,ha=>by
  have ha:(fH x&&d7 xs)=true:=ha
  rw [Ja] at ha
  exact .cons (rm k r1 ha.1) (mK k t1 ha.2)
end
section
variable {prog:Program}{w:World}{E:Value->Shared->Prop}
abbrev Dg (w:World)(d:PyData):Int:=PySem.W.hashW w.params (PySem.W.ofPy d)
mutual
theorem rn:∀(d:PyData) (v:Value) (as:List Addr) (A:Around) (s:Shared) (Q:Int->Shared->Prop),fH d=true->Reads s.heap v d as->A.units+d.depth<cLine ->
  Q (Dg w d) { s with toks:=s.toks+vc d }->wpAny (model prog w) A (pyHash v) Q E s
 | .none,_,_,A,s,Q,_,x,hu,h=>by
  cases x
  exact PySem.W.pyHash_slot (T := "NoneType") rfl F.slot_NoneType_hash F.entry_NoneType_hash (F.args_NoneType_hash_1 _) (beq_builtin_none _) (.inr (by omega)) (KS (KU (KS (wpAny_mkInt (KU ⟨_,_,rfl,h⟩)))))
 | .int i,_,_,A,s,Q,_,x,_,h=>by
  cases x
  refine wpAny_pyHash_int ?_
  have e:=PySem.W.hashW_int w.params i
  rw [<-e]
  exact h
 | .str y,_,_,A,s,Q,_,x,_,h=>by cases x;exact Ls h
 | .tuple xs,_,_,A,s,Q,hk,x,hu,h=>by
  cases x with
  | @tuple a o vs n _ _ hg hc hd hw =>
   refine PySem.W.pyHash_slot (T := "tuple") ⟨_,hg,hc⟩ F.slot_tuple_hash F.entry_tuple_hash (F.args_tuple_hash_1 _) (beq_builtin_none _) (.inr (by omega)) ?_
   show wpAny _ _ (Builtin.Tuple.tupleItemsOf (.ref a) >>= _) _ _ s
   refine KS (wpAny_tupleItemsOf hg hd ?_)
   refine KS ?_
   rw [<-Array.forIn_toList]
   refine ua xs vs.toList _ A.in1 s #[] _ hk hw (by have:(PyData.tuple xs).depth=PyData.depthAll xs+1:=rfl;rw [Around.in1_units];omega) fun b hb=>?_
   show wpAny _ _ (retInt (Builtin.Tuple.tupleHashOf b.toList)) _ _ _
   rw [hb]
   exact KS (wpAny_mkInt (KU ⟨_,_,rfl,h⟩))
 | .bool _,_,_,_,_,_,hk,_,_,_ | .list _,_,_,_,_,_,hk,_,_,_ | .dict _,_,_,_,_,_,hk,_,_,_=>by cases hk
theorem ua:∀(xs:List PyData) (vs:List Value) (as:List Addr) (A:Around) (s:Shared) (b:Array Int) (Q:Array Int->Shared->Prop),d7 xs=true->ReadsAll s.heap vs xs as->A.units+PyData.depthAll xs<cLine ->
  (∀b',b'.toList=b.toList++PySem.W.hashesW w.params (PySem.W.ofPys xs)->Q b' { s with toks:=s.toks+nz xs }) ->
  wpAny (model prog w) A (forIn vs b fun x r=>do let h <-pyHash x;pure PUnit.unit;pure (ForInStep.yield (r.push h))) Q E s
 | [],_,_,A,s,b,Q,_,x,_,h=>by cases x;exact KU (h b (by simp [PySem.W.hashesW,PySem.W.ofPys]))
 | k::xs,_,_,A,s,b,Q,hk,x,hu,h=>by
  cases x with
  | cons x1 x2 =>
   have hk:(fH k&&d7 xs)=true:=hk
   rw [Ja] at hk
   have hu:A.units+max k.depth (PyData.depthAll xs)<cLine:=hu
   rw [JK]
   refine KS (KS (rn k _ _ A s _ hk.1 x1 (by omega) ?_))
   refine KS (KU (KU ?_))
   refine ua xs _ _ A _ _ Q hk.2 x2 (by omega) fun b' hb=>?_
   have h2:=h b' (by simp [hb,PySem.W.hashesW,PySem.W.ofPys])
   have e:nz (k::xs)=vc k+nz xs:=rfl
   rw [e,<-Nat.add_assoc] at h2
   exact h2
end
mutual
theorem ub:∀(d:PyData) (v:Value) (as:List Addr) (A:Around) (s:Shared) (n:Nat) (Q:Bool->Shared->Prop),fH d=true->Reads s.heap v d as->d.depth<=n->Q true s->wpAny (model prog w) A (eqIsQuiet n v) Q E s
 | .none,_,_,A,s,n,Q,_,x,_,h=>by cases x;unfold eqIsQuiet;exact KU h
 | .int i,_,_,A,s,n,Q,_,x,_,h=>by cases x;unfold eqIsQuiet;exact KU h
 | .str y,_,_,A,s,n,Q,_,x,_,h=>by cases x;unfold eqIsQuiet;exact KU h
 | .tuple xs,_,_,A,s,n,Q,hk,x,hn,h=>by
  cases x with
  | @tuple a o vs n' _ _ hg hc hd hw =>
   have hn:PyData.depthAll xs+1<=n:=hn
   obtain⟨n,rfl⟩:∃m,n=m+1:=⟨n-1,by omega⟩
   have hT:s.TypeIs (.ref a) "tuple" := ⟨_,hg,hc⟩
   unfold eqIsQuiet
   refine KS (wpAny_specialOf hT F.slot_tuple_eq.lookup ?_)
   show wpAny _ _ (isInstance (.ref a) (.type "tuple") >>= _) _ _ s
   refine KS (Lh hT isSubtype_tuple_tuple ?_)
   simp only [Bool.not_true,Ju,if_false]
   refine KS (K2 hg hd ?_)
   refine KS ?_
   show wpAny _ _ (forIn vs _ _) _ _ s
   rw [<-Array.forIn_toList]
   have hall:=uc xs vs.toList _ A s n hk hw (by omega)
   refine wpAny_forIn_list _ (fun rest r s'=>r.1=none/\s' = s/\∀v∈rest,∀Q:Bool->Shared->Prop,Q true s->wpAny (model prog w) A (eqIsQuiet n v) Q E s) _ ?_ ?_ _ _ ⟨rfl,rfl,hall⟩
   ·rintro v rest r s' ⟨hr,rfl,hq⟩
    refine KS (hq v Iy _ ?_)
    simp only [Bool.not_true,Ju,if_false]
    exact KU ⟨rfl,rfl,fun u hu'=>hq u (Iz _ hu')⟩
   ·rintro⟨r1,r2⟩ s' ⟨hr,rfl,_⟩
    simp only at hr
    subst hr
    exact KU h
 | .bool _,_,_,_,_,_,_,hk,_,_,_ | .list _,_,_,_,_,_,_,hk,_,_,_ | .dict _,_,_,_,_,_,_,hk,_,_,_=>by cases hk
theorem uc:∀(xs:List PyData) (vs:List Value) (as:List Addr) (A:Around) (s:Shared) (n:Nat),d7 xs=true->ReadsAll s.heap vs xs as->PyData.depthAll xs<=n->∀v∈vs,∀Q:Bool->Shared->Prop,Q true s->wpAny (model prog w) A (eqIsQuiet n v) Q E s
 | [],_,_,A,s,n,_,x,_=>by cases x;intro v hv;cases hv
 | k::xs,_,_,A,s,n,hk,x,hn=>by
  cases x with
  | cons x1 x2 =>
   have hk:(fH k&&d7 xs)=true:=hk
   rw [Ja] at hk
   have hn:max k.depth (PyData.depthAll xs)<=n:=hn
   intro v hv Q h
   rcases Ii.mp hv with rfl | hv
   ·exact ub k _ _ A s n Q hk.1 x1 (by omega) h
   ·exact uc xs _ _ A s n hk.2 x2 (by omega) v hv Q h
end
end
structure jV (d:PyData):Prop where
 key:fH d=true
 lay:d.canLay0=true
 dep:d.depth<=7
 tup:∃xs,d=.tuple xs
def jW (prog:Program)(w:World):HeapKind prog w PyData where
 is:=fun h d a=>jV d/\∃as,Reads h (.ref a) d as
 hash:=Dg w
 draws:=vc
 room:=fun A=>A.units+64<cLine
 inj:=fun ⟨h1,_,r1⟩ ⟨h2,_,r2⟩=>t9 r1 r2 h1.key h2.key
 keeps:=fun {h h' k a d o es ep} ⟨h1,as,r1⟩ hd he hs=>⟨h1,as,rm (fun b u n vs e1 e2=>by
  have hne:b≠d:=by
   rintro rfl
   rw [hd] at e1
   cases e1
   rw [he] at e2
   cases e2
  exact (hs.2 b hne).trans e1) r1 h1.key⟩
 pyHash:=fun hu ⟨h1,_,r1⟩ h=>rn _ _ _ _ _ _ h1.key r1 (by have:=h1.dep;omega) h
 eqBool:=fun {A E s x y a b Q} hu ⟨h1,_,r1⟩ ⟨h2,_,r2⟩ h=>by
  refine PySem.SeqAt.eqAt_reads x y A s (.ref a) (.ref b) _ _ r1 r2 h1.lay h2.lay (by have:=h1.dep;have:=h2.dep;omega) prog w E Q ?_
  have e:PyData.eqv x y=decide (x=y):=by
   have:=xQ h1.key h2.key
   by_cases hxy:x=y
   ·rw [decide_eq_true hxy];exact this.mpr hxy
   ·rw [decide_eq_false hxy];exact Bool.eq_false_iff.mpr fun z=>hxy (this.mp z)
  rw [e]
  exact h
 quiet:=fun ⟨h1,_,r1⟩ h=>ub _ _ _ _ _ _ _ h1.key r1 (by have:=h1.dep;omega) h
abbrev KX (kvs:List (PyData×Addr×V))(xs:List (PyData×Addr×Value)):Prop:=Paired (fun (p:PyData×Addr×V) (q:PyData×Addr×Value)=>p.1=q.1/\p.2.1=q.2.1/\RelV p.2.2 q.2.2) kvs xs
def nE (P:Program)(w:World)(a:Addr)(kvs:List (PyData×Addr×V))(h:Heap):Prop:=(a == sysModules)=false/\kvs.length<=sizeLine /\
 ∃(xs:List (PyData×Addr×Value)) (o:Obj) (es:Array DictEntry) (ep:Nat),h.get? a=some o/\o.ExactDict/\o.data=.dict es ep/\es.toList=xs.map (entryOfKey (jW P w))/\(xs.map (·.1)).Nodup/\KX kvs xs
def fI (P:Program)(w:World)(a:Addr)(kvs:List (PyData×Addr×V)):HO:=.ext (nE P w a kvs)
theorem pW {P:Program}{w:World}{H:Hp}{h:Heap}{a:Addr}{kvs:List (PyData×Addr×V)}(S:nE P w a kvs h):b6 P w H h a (fI P w a kvs) :=
 ⟨S,let ⟨_,_,_,o,_,_,e,_⟩:=S;⟨o,e⟩,fun h1 h2 ⟨s1,s2,xs,o,es,ep,e,r⟩ k=>⟨s1,s2,xs,o,es,ep,k o e,r⟩⟩
def Dh (H:Hp)(kvs:List (PyData×Addr×V)):Prop:=∀p∈kvs,jV p.1/\aL H (.ref p.2.1) p.1
noncomputable def ft (kvs:List (PyData×Addr×V)) (d:PyData):Option V:=(kvs.find? fun p=>decide (p.1=d)).map (·.2.2)
noncomputable def putD (kvs:List (PyData×Addr×V)) (d:PyData) (k:Addr) (v:V):List (PyData×Addr×V):=if (ft kvs d).isSome then kvs.map (fun p=>if p.1=d then (p.1,p.2.1,v) else p) else kvs++[(d,k,v)]
theorem KX.val {d:PyData}:∀{kvs:List (PyData×Addr×V)} {xs:List (PyData×Addr×Value)},KX kvs xs->(ft kvs d=none/\atKey xs d=none)\/∃v a u,ft kvs d=some v/\atKey xs d=some (a,u)/\RelV v u
 | _,_,.nil=>.inl ⟨rfl,rfl⟩
 | _,_,.cons (a:=p) (b:=q) (l₁:=kvs) (l₂:=xs) ⟨e1,e2,e3⟩ t=>by
  by_cases h:p.1=d
  ·refine .inr ⟨p.2.2,q.2.1,q.2.2,?_,?_,e3⟩
   ·unfold ft;rw [KP (by exact decide_eq_true h)];rfl
   ·unfold atKey;rw [KP (by exact decide_eq_true (e1 ▸ h))];rfl
  ·have h':¬q.1=d:=fun z=>h (e1.trans z)
   have e4:ft (p::kvs) d=ft kvs d:=by unfold ft;rw [KQ (by rw [decide_eq_false h];decide)]
   have e5:atKey (q::xs) d=atKey xs d:=by unfold atKey;rw [KQ (by rw [decide_eq_false h'];decide)]
   rw [e4,e5]
   exact KX.val t
theorem KX.put {d:PyData}{k:Addr}{v:V}{u:Value}(r:RelV v u){kvs:List (PyData×Addr×V)}{xs:List (PyData×Addr×Value)}(h:KX kvs xs):KX (putD kvs d k v) (storedH xs d k u):=by
 have hv:=h.val (d:=d)
 unfold putD storedH
 rcases hv with ⟨h1,h2⟩ | ⟨v',a',u',h1,h2,_⟩
 ·rw [h1,h2]
  have app:∀{l:List (PyData×Addr×V)} {m:List (PyData×Addr×Value)},KX l m->KX (l++[(d,k,v)]) (m++[(d,k,u)]):=by
   intro l m q
   induction q with
   | nil=>exact .cons ⟨rfl,rfl,r⟩ .nil
   | cons hq _ ih=>exact .cons hq ih
  exact app h
 ·rw [h1,h2]
  show KX (kvs.map fun p=>if p.1=d then (p.1,p.2.1,v) else p) (xs.map (putAt d u))
  have go:∀{l:List (PyData×Addr×V)} {m:List (PyData×Addr×Value)},KX l m->KX (l.map fun p=>if p.1=d then (p.1,p.2.1,v) else p) (m.map (putAt d u)):=by
   intro l m q
   induction q with
   | nil=>exact .nil
   | @cons p q ps qs hq _ ih =>
    refine .cons ?_ ih
    unfold putAt
    dsimp only
    by_cases e:p.1=d
    ·rw [if_pos e,if_pos (hq.1 ▸ e)]
     exact⟨hq.1,hq.2.1,r⟩
    ·rw [if_neg e,if_neg (fun z=>e (hq.1.trans z))]
     exact hq
  exact go h
theorem Cb (kvs:List (PyData×Addr×V))(d:PyData)(k:Addr)(v:V):(putD kvs d k v).length<=kvs.length+1:=by
 unfold putD
 split
 ·rw [Ig];omega
 ·rw [Io];exact Ij _
theorem KX.keys:∀{kvs:List (PyData×Addr×V)} {xs:List (PyData×Addr×Value)},KX kvs xs->∀q∈xs,∃p∈kvs,p.1=q.1/\p.2.1=q.2.1
 | _,_,.nil,q,hq=>nomatch hq
 | _,_,.cons (a:=p) (l₁:=kvs) ⟨e1,e2,_⟩ t,q,hq=>by
  rcases Ii.mp hq with rfl | hq
  ·exact⟨p,Iy ..,e1,e2⟩
  ·obtain⟨p',hp',r⟩:=KX.keys t q hq
   exact⟨p',Iz _ hp',r⟩
section
variable {X:Cx}{pins:List (Addr×Obj)}{Ic : St}{H:Hp}{s:Shared}{a k:Addr}{kvs:List (PyData×Addr×V)}{d:PyData}
theorem key_is (I:Inv X pins Ic H s)(hk:jV d)(r:aL H (.ref k) d):(jW X.prog X.w).is s.heap d k:=⟨hk,r.reads I.aW rfl⟩
theorem rA (I:Inv X pins Ic H s)(e:H a=some (fI X.prog X.w a kvs))(hk:Dh H kvs):(a == sysModules)=false/\kvs.length<=sizeLine/\∃xs,KX kvs xs/\s.heap.DictOfH (jW X.prog X.w) a xs:=by
 obtain⟨h1,h2,xs,o,es,ep,g1,g2,g3,g4,g5,g6⟩:=(show nE X.prog X.w a kvs s.heap from (I.aW a _ e).1)
 refine⟨h1,h2,xs,g6,o,es,ep,g1,g2,g3,g4,fun x hx=>?_,g5⟩
 obtain⟨p,hp,e1,e2⟩:=g6.keys x hx
 have:=hk p hp
 rw [<-e1,<-e2]
 exact key_is I this.1 this.2
theorem KX.len:∀{kvs:List (PyData×Addr×V)} {xs:List (PyData×Addr×Value)},KX kvs xs->kvs.length=xs.length
 | _,_,.nil=>rfl
 | _,_,.cons _ t=>congrArg (· + 1) (KX.len t)
theorem vd {A:Around}(hu:A.units+66<cLine){P:Program}{w:World}:(jW P w).room A.in1:=by show A.in1.units+64<cLine;rw [Around.in1_units];omega
structure zb (X:Cx) (H:Hp) (a k:Addr) (kvs:List (PyData×Addr×V)) (d:PyData):Prop where
 at_:H a=some (fI X.prog X.w a kvs)
 keys:Dh H kvs
 key:jV d
 rd:aL H (.ref k) d
theorem Eb (hu:X.A.units+66<cLine):d5 X (compareOp .In) (fun x y H Q=>∃k a d kvs,x=.ref k/\y=.ref a/\zb X H a k kvs d/\Q (.bl (ft kvs d).isSome) H):=by
 intro pins s Ic H x y v u Q I rx ry h
 obtain⟨k,a,d,kvs,rfl,rfl,D,q⟩:=h
 cases rx
 cases ry
 obtain⟨h1,h2,xs,kx,dd⟩:=rA I D.at_ D.keys
 refine wpAny_in_heap (vd hu) (key_is I D.key D.rd) h1 dd ?_
 have e:(atKey xs d).isSome=(ft kvs d).isSome:=by
  rcases kx.val (d:=d) with ⟨e1,e2⟩ | ⟨_,_,_,e1,e2,_⟩ <;> rw [e1,e2] <;> rfl
 rw [e]
 exact⟨.bl _,H,I.tok _,rfl,q⟩
theorem zc (hu:X.A.units+66<cLine):d5 X (compareOp .NotIn) (fun x y H Q=>∃k a d kvs,x=.ref k/\y=.ref a/\zb X H a k kvs d/\Q (.bl (!(ft kvs d).isSome)) H):=by
 intro pins s Ic H x y v u Q I rx ry h
 obtain⟨k,a,d,kvs,rfl,rfl,D,q⟩:=h
 cases rx
 cases ry
 obtain⟨h1,h2,xs,kx,dd⟩:=rA I D.at_ D.keys
 refine wpAny_notIn_heap (vd hu) (key_is I D.key D.rd) h1 dd ?_
 have e:(atKey xs d).isSome=(ft kvs d).isSome:=by
  rcases kx.val (d:=d) with ⟨e1,e2⟩ | ⟨_,_,_,e1,e2,_⟩ <;> rw [e1,e2] <;> rfl
 rw [e]
 exact⟨.bl _,H,I.tok _,rfl,q⟩
theorem Ec {o i:Expr}{pos:Pos}{td ty:TE}(hu:X.A.units+66<cLine)(ho:PE X o td)(hi:PE X i ty)(hs:yO i) :
  PE X (.Subscript o i pos) (fun Ic H Q=>td Ic H fun x H1=>ty Ic H1 fun y H2=>∃k a d kvs v,x=.ref a/\y=.ref k/\zb X H2 a k kvs d/\ft kvs d=some v/\Q v H2):=by
 intro pins s Ic H Q I h
 refine sC PySem.F.slot_dict_getitem.lookup hs (br (ho pins s Ic H _ I h) fun u s1 ⟨x,H1,I1,rx,q1⟩=>br (hi pins s1 Ic H1 _ I1 q1) fun iv s2 ⟨y,H2,I2,ry,k,a,d,kvs,v,ex,ey,D,hv,q2⟩=>?_)
 subst ex ey
 obtain rfl:u=Value.ref a:=rx
 obtain rfl:iv=Value.ref k:=ry
 obtain⟨h1,h2,xs,kx,dd⟩:=rA I2 D.at_ D.keys
 rcases kx.val (d:=d) with ⟨e1,_⟩ | ⟨v',a',u',e1,e2,e3⟩
 ·rw [e1] at hv;cases hv
 ·rw [e1] at hv
  cases hv
  exact⟨dd.typeIs,wpAny_getItem_heap (vd hu) (key_is I2 D.key D.rd) dd e2 ⟨_,H2,I2.tok _,e3,q2⟩⟩
theorem Cc (hu:X.A.units+66<cLine):Bd X (fun o i v H Q=>∃k a d kvs,o=.ref a/\i=.ref k/\zb X H a k kvs d/\kvs.length<sizeLine/\Q (upd H a (fI X.prog X.w a (putD kvs d k v)))):=by
 intro pins s Ic H o i v ov iv u Q I ro ri rv h
 obtain⟨k,a,d,kvs,rfl,rfl,D,hz,q⟩:=h
 cases ro
 cases ri
 obtain⟨h1,h2,xs,kx,dd⟩:=rA I D.at_ D.keys
 refine wpAny_setItem_heap (vd hu) (key_is I D.key D.rd) dd (fun h' hm' hs'=>?_) (by rw [<-kx.len];exact h2)
 obtain⟨o',es,ep,g1,g2,g3,g4,g5,g6⟩:=id hm'
 refine⟨_,I.write (t':=_) (x:=a) (e:=a) (by rw [D.at_];exact trivial) (.inl rfl) (fun c u' hc hu=>(hs'.2 c hc).trans hu) ⟨o',g1⟩ (pW ⟨h1,?_,storedH xs d k u,o',es,ep,g1,g2,g3,g4,g6,kx.put rv⟩),q⟩
 have:=Cb kvs d k v
 omega
end
open LS
section
variable {X:Cx}
end
def sJ (a0 a1:V):List (Str×V):=[("members",a0),("places",a1)]
section
variable {a0 a1 z:V}
theorem ig:(sJ a0 a1).lookup ("members" : Str)=some a0:=pN
theorem jb:(sJ a0 a1).lookup ("places" : Str)=some a1:=(eJ (by decide +kernel) pN)
theorem rB:cR "members" a0 ([]:List (Str×V))=([("members",a0)]:List (Str×V)):=pO
theorem AA:cR "places" a1 ([("members",a0)]:List (Str×V))=sJ a0 a1:=(fo (by decide +kernel) pO)
theorem vZ:(sJ a0 a1).lookup ("place_of" : Str)=none:=(eJ (by decide +kernel) (eJ (by decide +kernel) rfl))
end
structure nF (K:Ih) (C:Addr):Prop where
 cl:jK K C
 members:eD K C "members"
 places:eD K C "places"
abbrev vN (ms:List Nat):List V:=ms.map fun k=>V.int (k:Nat)
def ma (m d:Addr)(H H':Hp):Prop:=∀c o,H c=some o->c≠m->c≠d->H' c=some o
theorem ma.refl {m d:Addr}{H:Hp}:ma m d H H:=fun _ _ h _ _=>h
theorem ma.of_same {m d:Addr}{H H':Hp}(h:ae H H'):ma m d H H':=fun c o e _ _=>h c o e
section
variable {C r m d:Addr}{H H':Hp}{ms:List Nat}
end
section
variable (C:Addr)
end
def HZ:Piece->Bool
 | ([],.go _)=>true
 | _=>false
theorem hJ {l:List Nat}{n:Nat}(nd:l.Nodup)(h:∀x∈l,x<n):l.length<=n:=by
 have:=sub_len nd (m:=IZ n) fun x hx=>Jw.mpr (h x hx)
 simpa using this
def me:End->List V
 | .stop=>[.str "stop"]
 | .go _=>[.str "go"]
 | .cm b x n _ _=>[.str (wT b),.str x,.int n]
def Cd:End->List Nat->End
 | .go _,[a]=>.go a
 | .cm b x n _ _,[a,c]=>.cm b x n a c
 | e,_=>e
theorem Ce {e:End}{ns:List Nat}(h:ns.length=(bH e).length):dm (Cd e ns)=me e++vN ns:=by
 cases e with
 | stop=>match ns,h with | [],_=>rfl
 | go p=>match ns,h with | [a],_=>rfl
 | cm b x n p q=>match ns,h with | [a,c],_=>rfl
theorem lC {H:Hp}{t:Addr}{e:End}(h:H t=some (.tup (dm e))):aL H (.ref t) (e6 e):=by
 cases e with
 | stop=>exact .tup h (.cons (.str _) .nil)
 | go p=>exact .tup h (.cons (.str _) (.cons (.int _) .nil))
 | cm b x n p q=>exact .tup h (.cons (.str _) (.cons (.str _) (.cons (.int _) (.cons (.int _) (.cons (.int _) .nil)))))
theorem Cf {ms:List Nat}{k:Nat}(h:ms.Nodup):(LS.putIn ms k).Nodup:=by
 unfold LS.putIn
 split
 ·exact h
 ·next hk =>
  rw [JL]
  refine⟨h,by simp,fun x hx y hy z=>?_⟩
  rw [Il.mp hy] at z
  exact hk (z ▸ hx)
def kG (k:Nat):PyData:=.int (k:Nat)
inductive ud  (vs:List V) (H:Hp) (Q:VK) (_:XK):Prop
 | mk (ea:Addr) (e:End) (_:vs=[.ref ea]) (_:H ea=some (.tup (dm e))) (_:∀t H',H' t=some (.tup (me e))->ae H H'->Q (.ref t) H')
theorem dq:∀ds:List PyData,(∀d∈ds,d.canLay0=true)->(PyData.tuple ds).canLay0=true
 | [],_=>rfl
 | d::ds,h=>by
  have ih:=dq ds fun x hx=>h x (Iz _ hx)
  show (d.canLay0&&(PyData.tuple ds).canLay0)=true
  rw [h d (Iy ..),ih]
  rfl
theorem jC {m:Nat}:∀ds:List PyData,(∀d∈ds,d.depth<=m)->PyData.depthAll ds<=m
 | [],_=>IF _
 | d::ds,h=>by
  have ih:=jC ds fun x hx=>h x (Iz _ hx)
  have h1:=h d (Iy ..)
  show max d.depth (PyData.depthAll ds)<=m
  omega
theorem Cg (d:cN):(cn d).depth<=1:=by cases d <;> exact Ij 1
theorem Ed (e:End):(e6 e).depth<=1:=by cases e <;> exact Ij 1
theorem AB (p:Piece):(bO p).depth<=3:=by
 have h1:=jC (p.1.map cn) fun d hd=>by obtain⟨x,_,rfl⟩:=Iv.mp hd;exact Cg x
 have h2:=Ed p.2
 show max (PyData.depthAll (p.1.map cn)+1) (max (e6 p.2).depth 0)+1<=3
 omega
theorem gc {x:Str}(h:eG x):PyData.canLay0 (.str x)=true:=by
 show (x.cps.all fun c=>decide (c<0x110000))=true
 rw [<-Array.all_toList,JU]
 intro c hc
 have:=h.az c hc
 exact decide_eq_true (by omega)
theorem Ci {xs:List Str}(hx:∀x∈xs,eG x){d:cN}(h:cL xs d):(cn d).canLay0=true:=by
 cases d with
 | put x n =>
  refine dq _ fun y hy=>?_
  rcases Ii.mp hy with rfl | hy
  ·decide +kernel
  rcases Ii.mp hy with rfl | hy
  ·exact gc (hx _ h.1)
  rw [Il.mp hy];rfl
 | copy x z =>
  refine dq _ fun y hy=>?_
  rcases Ii.mp hy with rfl | hy
  ·decide +kernel
  rcases Ii.mp hy with rfl | hy
  ·exact gc (hx _ h.1)
  rw [Il.mp hy];exact gc (hx _ h.2)
 | add x n =>
  refine dq _ fun y hy=>?_
  rcases Ii.mp hy with rfl | hy
  ·decide +kernel
  rcases Ii.mp hy with rfl | hy
  ·exact gc (hx _ h.1)
  rw [Il.mp hy];rfl
 | read x =>
  refine dq _ fun y hy=>?_
  rcases Ii.mp hy with rfl | hy
  ·decide +kernel
  rw [Il.mp hy];exact gc (hx _ h)
 | tell x =>
  refine dq _ fun y hy=>?_
  rcases Ii.mp hy with rfl | hy
  ·decide +kernel
  rw [Il.mp hy];exact gc (hx _ h)
theorem Ee {xs:List Str}(hx:∀x∈xs,eG x){c:Nat}{e:End}(h:gx xs c e):(e6 e).canLay0=true:=by
 cases e with
 | stop =>
  refine dq _ fun y hy=>?_
  rw [Il.mp hy];decide +kernel
 | go p =>
  refine dq _ fun y hy=>?_
  rcases Ii.mp hy with rfl | hy
  ·decide +kernel
  rw [Il.mp hy];rfl
 | cm b x n p q =>
  refine dq _ fun y hy=>?_
  rcases Ii.mp hy with rfl | hy
  ·cases b <;> decide +kernel
  rcases Ii.mp hy with rfl | hy
  ·exact gc (hx _ h.1)
  rcases Ii.mp hy with rfl | hy
  ·rfl
  rcases Ii.mp hy with rfl | hy
  ·rfl
  rw [Il.mp hy];rfl
def jj (ps:List Piece):Prop:=∀p∈ps,(PyData.tuple (p.1.map cn)).canLay0=true/\(e6 p.2).canLay0=true
theorem gR {xs:List Str}(hx:∀x∈xs,eG x){m:Nat}{ps:List Piece}(ok:cI xs m ps):jj ps:=fun p hp =>
 ⟨dq _ fun d hd=>by obtain⟨x,hx',rfl⟩:=Iv.mp hd;exact Ci hx ((ok.fe p hp).2 x hx'),Ee hx (ok.ends p hp)⟩
theorem sL (k:Nat):∀ms:List Nat,i8 (.int (k:Nat)) (vN ms)=decide (k∈ms)
 | []=>rfl
 | m::ms=>by
  have ih:=sL k ms
  show ((((m:Nat):Int) == ((k:Nat):Int))||i8 (.int (k:Nat)) (vN ms))=_
  rw [ih]
  by_cases e:m=k
  ·subst e;simp
  ·have e':¬(m:Int)=(k:Int):=by omega
   rw [beq_false_of_ne e',Bool.false_or]
   have:k∈m::ms↔k∈ms:=by rw [Ii];exact⟨fun h=>h.resolve_left fun z=>e z.symm,.inr⟩
   simp only [this]
theorem xR (ms:List Nat):(vN ms).all h9=true:=by rw [JU];intro v hv;obtain⟨k,_,rfl⟩:=Iv.mp hv;rfl
theorem AD (ms:List Nat):vN ms=(ms.map fun k:Nat=>(k:Int)).map V.int:=by rw [Js];rfl
structure NF (X:Cx) (a:Addr):Prop where
 none_:∀o,X.eh.heap.get? a=some o->X.lM a=none->a∉X.ex->False
 tup:∀xs,X.lM a≠some (.tup xs)
 eR:∀o u,X.lM a≠some (.eR o u)
 mS:∀ps,X.lM a≠some (.mS ps)
section
variable {X:Cx}{pins:List (Addr×Obj)}{Ic : L2.St}{H:Hp}{s:Shared}{a:Addr}
theorem Inv.nf {kvs:List (Key×V)}(I:Inv X pins Ic H s)(e:H a=some (.dK kvs)):NF X a where
 none_:=fun o h1 h2 h3=>by
  have:=I.base.free a o h1 h2 h3
  rw [e] at this
  cases this
 tup:=fun xs h=>by
  have:=I.base.av a xs h
  rw [e] at this
  cases this
 eR:=fun o u h=>by
  have:=I.base.je a o u h
  rw [e] at this
  cases this
 mS:=fun ps h=>by
  obtain⟨more,this⟩:=I.base.jD a ps h
  rw [e] at this
  cases this
theorem Inv.swap {u u':HO}(I:Inv X pins Ic H s)(nf:NF X a)(e:H a=some u)(no:∀y,u≠.own y)(nt:∀xs,u≠.tup xs)(new:b6 X.prog X.w (upd H a u') s.heap a u'):Inv X pins Ic (upd H a u') s where
 ok:=I.ok
 os:=I.os
 bare:=I.bare
 base:={
  keep:=I.base.keep
  slot:=I.base.slot
  free:=fun b o h1 h2 h3=>by
   by_cases z:b=a
   ·subst z;exact absurd (nf.none_ o h1 h2 h3) id
   ·rw [ao z];exact I.base.free b o h1 h2 h3
  there:=I.base.there
  av:=fun b xs h=>by
   have z:b≠a:=fun z=>by subst z;exact nf.tup xs h
   rw [ao z];exact I.base.av b xs h
  je:=fun b o v h=>by
   have z:b≠a:=fun z=>by subst z;exact nf.eR o v h
   rw [ao z];exact I.base.je b o v h
  jD:=fun b ps h=>by
   have z:b≠a:=fun z=>by subst z;exact nf.mS ps h
   rw [ao z];exact I.base.jD b ps h }
 loc:=I.loc
 cell:=I.cell
 free:=by rw [ao (fun z=>by have:=I.free;rw [z,e] at this;cases this)];exact I.free
 fD:=fun x c h=>by rw [ao (fun z=>by have:=I.fD x c h;rw [z,e] at this;cases this)];exact I.fD x c h
 pin:=fun p hp=>by
  obtain⟨h1,h2,h3⟩:=I.pin p hp
  exact⟨h1,by rw [ao (fun z=>by rw [z,e] at h2;cases h2)];exact h2,h3⟩
 aW:=fun b o h=>by
  by_cases z:b=a
  ·subst z
   rw [aa] at h
   cases h
   exact new
  ·rw [ao z] at h
   refine (I.aW b o h).pG (fun _ _ _ q=>q) (fun c q=>?_) fun c xs q=>?_
   ·rw [ao (fun y=>by rw [y,e] at q;exact no _ (IA.inj q))];exact q
   ·rw [ao (fun y=>by rw [y,e] at q;exact nt _ (IA.inj q))];exact q
 len:=I.len
end
theorem Ef {P:Program}{w:World}{k:Key}{v:Value}(h:(aU P w).is k v=true):RelV (kV k) v:=by
 cases k with
 | inr x=>exact kC h
 | inl i =>
  obtain⟨t,e⟩:=Value.isInt_shape (show Value.isInt i v=true from h)
  exact⟨t,e⟩
def GX (a:Addr)(kvs:List (Key×V))(ob:Obj):It :=
 ⟨fun i H=>H a=some (.eR ob (.dK kvs))/\i<kvs.length,fun i H x H'=>H' = H/\∃k v,kvs[i]?=some (k,v)/\x=kV k,fun i H=>H a=some (.eR ob (.dK kvs))/\kvs.length<=i⟩
theorem AE {P:Program}{w:World}{K:Ih}{tg:Expr}{kvs:List (Key×V)}{vs:List (Key×Value)}{ob:Obj}{ep:Nat}(a it:Addr)(hat:∀h:Heap,h.get? a=some ob->h.DictAt (aU P w) a vs ep)(rel:KV kvs vs) :
  Turn P w K tg (GX a kvs ob) [it] it (fun i h=>h.IsKeyIter it a i vs.length ep) where
 mem:=by simp
 obj:=fun i h st b hb=>by
  have e:b=it:=by simpa using hb
  subst e
  obtain⟨o,e,c,d⟩:=st
  exact⟨o,e,fun v z=>by rw [d] at z;cases z⟩
 keep:=fun i h h' st k=>st.at fun o e=>k it (by simp) o e
 item:=by
  intro X hP hw hK hc i pins s Ic H E I hf st hg
  subst hP hw hK
  obtain⟨ha,hi⟩:=hg
  obtain⟨e0,_⟩:=(show b6 X.prog X.w H s.heap a (.eR ob (.dK kvs)) from I.aW a _ ha)
  have hvi:i<vs.length:=by rw [<-rel.length];exact hi
  have hx:vs[i]?=some vs[i]:=by simp [hvi]
  generalize vs[i]=p at hx
  obtain⟨k,u⟩:=p
  obtain⟨v,hkv⟩:∃v,kvs[i]?=some (k,v):=by
   have e1:(vs.map (·.1))[i]?=some k:=by rw [Iu,hx];rfl
   rw [<-rel.keys,Iu] at e1
   cases e2:kvs[i]? with
   | none=>rw [e2] at e1;cases e1
   | some q =>
    rw [e2] at e1
    obtain⟨k',v⟩:=q
    cases (IA.inj e1)
    exact⟨v,rfl⟩
  obtain⟨f0,f1,f2,f3,f4,f5⟩:=hf it (by simp)
  refine wpAny_pyNext_dict_item st (hat _ e0) hx fun key h' hkey st' sb=>?_
  have I1:Inv X pins Ic H { s with heap:=h' }:=I.turned (t':=s.toks) (fun b o hb e=>(sb.2 b hb).trans e) f0 f1 f3 f4 f5
  obtain⟨o,e,c,d⟩:=id st'
  exact⟨key,rfl,uY (s:={ s with heap:=h' }) e c d (by decide) ⟨kV k,H,I1,Ef hkey,⟨rfl,k,v,hkv,rfl⟩,st',fun b hb=>(hf b hb).1⟩⟩
 done:=by
  intro X hP hw hK hc i pins s Ic H E I hf st hg
  subst hP hw hK
  obtain⟨ha,hi⟩:=hg
  obtain⟨e0,_⟩:=(show b6 X.prog X.w H s.heap a (.eR ob (.dK kvs)) from I.aW a _ ha)
  obtain⟨f0,f1,f2,f3,f4,f5⟩:=hf it (by simp)
  exact wpAny_pyNext_dict_end (I.ok.hd hc) st (hat _ e0) (JT (by rw [<-rel.length];exact hi)) fun h' eb=>⟨rfl,I.turned (t':=s.toks) (fun b o hb e=>eb b o hb e) f0 f1 f3 f4 f5⟩
 self:=fun _ _ _ _ _ st h=>wpAny_pyIter_keyiter st h
section
variable {X:Cx}
def GB (i:Nat)(X:Cx):TI:=fun Ic H R=>∃v,Ic[i]?=some (some v)/\∃a kvs,v=.ref a/\H a=some (.dK kvs)/\∀ob,NF X a->R (GX a kvs ob) (upd H a (.eR ob (.dK kvs)))
theorem Eg {tg l:Expr}{i:Nat}(hl:PE X l (sd i)):PI X tg l (GB i X):=by
 intro pins s Ic H R I h
 obtain⟨v0,hv0,a,kvs,rfl,ha,q⟩:=h
 refine br (hl pins s Ic H (fun x H1=>x=.ref a/\H1=H) I ⟨_,hv0,rfl,rfl⟩) fun v s1 ⟨x,H1,I1,r1,e1,e2⟩=>?_
 subst e1 e2
 cases r1
 have nf:=I1.nf ha
 obtain⟨z,hd,vs,rel,dd⟩:=qL I1.aW ha
 obtain⟨ep,ob,es,ho,rest⟩:=dd.dictAt
 have I2:Inv X pins Ic (upd H1 a (.eR ob (.dK kvs))) s1:=I1.swap nf ha (fun _ h=>nomatch h) (fun _ h=>nomatch h) ⟨ho,ng z hd rel ⟨ob,es,ep,ho,rest⟩⟩
 refine wpAny_pyIter_dict hd ⟨ob,es,ho,rest⟩ ?_
 refine⟨s1.heap.objs.size,[s1.heap.objs.size],_,_,_,rfl,I2.kept (t':=s1.toks) fun b o e=>Im _ e,AE a _ (fun h e=>⟨ob,es,e,rest⟩) rel,⟨_,Ip _ rfl,rfl,rfl⟩,fun b hb=>?_,q ob nf⟩
 have e:b=s1.heap.objs.size:=by simpa using hb
 subst e
 exact I2.kB (Ij _) (I2.aW.fresh (Ij _))
def GC (i:Nat)(g:TG)(tb:TS):TS:=fun D Ic H=>∃v,Ic[i]?=some (some v)/\∃a kvs,v=.ref a/\H a=some (.dK kvs)/\∀ob,∃Pv:Nat->L2.St->Hp->Prop,Pv 0 Ic (upd H a (.eR ob (.dK kvs))) /\
 (∀j Ie H2,Pv j Ie H2->H2 a=some (.eR ob (.dK kvs))) /\
 (∀j k u Ie H2,kvs[j]?=some (k,u)->Pv j Ie H2->g (kV k) Ie H2 fun τ3 H3=>tb { D with nx:=Pv (j+1),ct:=Pv (j+1),bk:=fun τ4 H4=>∃ob',H4 a=some (.eR ob' (.dK kvs))/\D.nx τ4 (upd H4 a (.dK kvs)),rt:=fun r H4=>∃ob',H4 a=some (.eR ob' (.dK kvs))/\D.rt r (upd H4 a (.dK kvs)) } τ3 H3) /\
 (∀Ie H2,Pv kvs.length Ie H2->D.nx Ie (upd H2 a (.dK kvs)))
theorem FJ {pins:List (Addr×Obj)}{Ic : L2.St}{H:Hp}{s:Shared}{a:Addr}{ob:Obj}{kvs:List (Key×V)}(I:Inv X pins Ic H s)(nf:NF X a)(e:H a=some (.eR ob (.dK kvs))):Inv X pins Ic (upd H a (.dK kvs)) s:=by
 obtain⟨z,hd,vs,rel,dd⟩:=oy I.aW (.inr ⟨ob,e⟩)
 exact I.swap nf e (fun _ h=>nomatch h) (fun _ h=>nomatch h) (ng z hd rel dd)
theorem xS {tg l:Expr}{body:List Stmt}{i:Nat}{g:TG}{tb:TS}{pos:Pos}(hp:PassesOwn (model X.prog X.w) X.A X.env X.xe)(hc:X.calm=true)(hl:PE X l (sd i))(hg:PG X tg g)(hb:jE X body tb)
  (hs:∀x,foldedSetIterable l X.env x=pure x:=by intro _;rfl):PS X (.For tg l body [] pos) (GC i g tb):=by
 intro pins s Ic H D I h
 obtain⟨v,hv,a,kvs,rfl,ha,h⟩:=h
 have nf:=I.nf ha
 refine br (dA hp hc (Eg hl) hg hb hs pins s Ic H { nx:=fun Ie H2=>∃ob,H2 a=some (.eR ob (.dK kvs))/\D.nx Ie (upd H2 a (.dK kvs)),rt:=fun r H2=>∃ob,H2 a=some (.eR ob (.dK kvs))/\D.rt r (upd H2 a (.dK kvs)),bk:=D.bk,ct:=D.ct } I ?_) fun f s' q=>?_
 ·refine⟨_,hv,a,kvs,rfl,ha,fun ob _=>?_⟩
  obtain⟨Pv,p0,pf,ps,pe⟩:=h ob
  refine⟨fun j m Ie H2=>m=kvs.length-j/\j<=kvs.length/\Pv j Ie H2,⟨kvs.length,by simp,IF _,p0⟩,?_⟩
  rintro j m Ie H2 ⟨rfl,hj,p⟩
  by_cases hlt:j<kvs.length
  ·refine .inr ⟨⟨pf j Ie H2 p,hlt⟩,Pv (j+1),fun τ' H' p'=>⟨kvs.length-(j+1),by omega,rfl,hlt,p'⟩,fun x H' y=>?_⟩
   obtain⟨e1,k,u,e2,e3⟩:=y
   subst e1 e3
   exact ps j k u Ie _ e2 p
  ·have e:j=kvs.length:=by omega
   subst e
   exact .inl ⟨⟨pf _ Ie H2 p,Ij _⟩,ob,pf _ Ie H2 p,pe Ie H2 p⟩
 ·cases f with
  | next =>
   obtain⟨Ie,H2,I2,ob,e,q⟩:=q
   exact⟨Ie,_,FJ I2 nf e,q⟩
  | brk=>exact q
  | cont=>exact q
  | ret u =>
   obtain⟨r,Ie,H2,I2,rr,ob,e,q⟩:=q
   exact⟨r,Ie,_,FJ I2 nf e,rr,q⟩
end
def LT (H:Hp)(d:Addr)(T:Str->Sx)(m:Nat):Prop:=∃kvs ks,H d=some (.dK kvs)/\Tb 0 H kvs ks T/\(∀x∈ks,T x≠cO)/\ks.length<=m
theorem LT.av {H H':Hp}{d:Addr}{T:Str->Sx}{m:Nat}(h:LT H d T m)(hd:∀o,H d=some o->H' d=some o)(k:∀p xs,H p=some (.tup xs)->H' p=some (.tup xs)):LT H' d T m:=by
 obtain⟨kvs,ks,h1,h2,h3,h4⟩:=h
 exact⟨kvs,ks,hd _ h1,h2.av k,h3,h4⟩
theorem LT.same {H H':Hp}{d:Addr}{T:Str->Sx}{m:Nat}(h:LT H d T m)(s:ae H H'):LT H' d T m:=h.av (fun o e=>s _ _ e) fun p xs e=>s _ _ e
theorem LT.get {H:Hp}{T:Str->Sx}{kvs:List (Key×V)}{ks:List Str}{t:Addr}(tb:Tb 0 H kvs ks T)(cl:∀x∈ks,T x≠cO)(ht:H t=some (.tup [.aT,.aT]))(x:Str):∃v,(b8 kvs (Sum.inr x)).getD (.ref t)=v/\SH H v (T x):=by
 rcases tb.val x with ⟨a,b,_⟩ | ⟨v,a,b,c⟩
 ·exact⟨_,by rw [a];rfl,t,rfl,by rw [b];exact ht⟩
 ·refine⟨v,by rw [a];rfl,?_⟩
  rcases b with b | ⟨_,b⟩
  ·exact b
  ·exact absurd b (cl x c)
theorem ue {T:Str->Sx}{x:Str}(h:T x=cO):cb T x cO=T:=by
 funext y
 unfold cb
 by_cases e:y=x
 ·rw [if_pos e,e,h]
 ·rw [if_neg e]
theorem AF {T:Str->Sx}{x:Str}{s t:Sx}:cb (cb T x s) x t=cb T x t:=by
 funext y
 unfold cb
 by_cases e:y=x
 ·rw [if_pos e,if_pos e]
 ·rw [if_neg e,if_neg e,if_neg e]
theorem uf (k j:Key):∀kvs:List (Key×V),b8 (fE kvs k) j=if j=k then none else b8 kvs j
 | []=>by simp [fE,b8]
 | p::r=>by
  have ih:=uf k j r
  by_cases e:p.1=k
  ·rw [tT e,ih]
   by_cases z:j=k
   ·rw [if_pos z,if_pos z]
   ·rw [if_neg z,if_neg z,di (p:=p) (fun w:p.1=j=>z (w.symm.trans e))]
  ·rw [tU e]
   by_cases w:p.1=j
   ·rw [dD w,dD w,if_neg (fun z=>e (w.trans z))]
   ·rw [di w,di w,ih]
theorem Tb.drop {aA:Addr}{H:Hp}{kvs:List (Key×V)}{ks:List Str}{T:Str->Sx}(h:Tb aA H kvs ks T)(x:Str):Tb aA H (fE kvs (Sum.inr x)) (ks.filter fun y=>decide (y≠x)) (cb T x cO) where
 keys:=by
  have go:∀(kvs:List (Key×V)) (ks:List Str),kvs.map (·.1)=ks.map Sum.inr->(fE kvs (Sum.inr x)).map (·.1)=(ks.filter fun y=>decide (y≠x)).map Sum.inr:=by
   intro kvs
   induction kvs with
   | nil =>
    intro ks e
    cases ks with
    | nil=>rfl
    | cons a b=>simp at e
   | cons p r ih =>
    intro ks e
    cases ks with
    | nil=>simp at e
    | cons a b =>
     rw [IK,IK] at e
     injection e with e1 e2
     by_cases z:a=x
     ·rw [tT (by rw [e1,z]),Kb (by simp [z])]
      exact ih b e2
     ·rw [tU (fun w=>z (Sum.inr.inj (e1.symm.trans w))),Kw (by simp [z]),IK,IK,ih b e2,e1]
  exact go kvs ks h.keys
 nd:=h.nd.filter _
 val:=fun y=>by
  rw [uf]
  unfold cb
  by_cases e:y=x
  ·subst e
   rw [if_pos rfl,if_pos rfl]
   exact .inl ⟨rfl,rfl,by simp⟩
  ·rw [if_neg (fun z=>e (Sum.inr.inj z)),if_neg e]
   rcases h.val y with ⟨a,b,c⟩ | ⟨v,a,b,c⟩
   ·exact .inl ⟨a,b,fun z=>c (Jf.mp z).1⟩
   ·exact .inr ⟨v,a,b,Jf.mpr ⟨c,by simp [e]⟩⟩
theorem AG {kvs:List (Key×V)}{k:Key}{v:V}{j:Nat}(nd:(kvs.map (·.1)).Nodup)(h:kvs[j]?=some (k,v)):putK (kvs.take j) k v=kvs.take (j+1):=by
 have hj:j<kvs.length:=(IE.mp h).1
 have hn:¬k∈(kvs.take j).map (·.1):=fun hm=>by
  have hs:(kvs.take (j+1)).map (·.1)=(kvs.take j).map (·.1)++[k]:=by
   rw [IP,h,Iw];rfl
  have nd2:((kvs.take (j+1)).map (·.1)).Nodup:=by
   rw [List.map_take]
   exact nd.sublist (List.take_sublist _ _)
  rw [hs,JL] at nd2
  exact nd2.2.2 k hm k (by simp) rfl
 have hv:b8 (kvs.take j) k=none:=by
  cases e:b8 (kvs.take j) k with
  | none=>rfl
  | some u=>exact absurd (DU e) hn
 rw [BD _ hv,IP,h]
 rfl
inductive sM  (vs:List V) (H:Hp) (Q:VK) (_:XK):Prop
 | mk (d:Addr) (T:Str->Sx) (m:Nat) (x:Str) (sv:V) (s:Sx) (_:vs=[.ref d,.str x,sv]) (_:LT H d T m) (_:m<=60) (_:SH H sv s) (_:∀d' H',LT H' d' (cb T x s) (m+1)->ae H H'->Q (.ref d') H')
def Sound (T:Str->Sx)(w:Str->Int):Prop:=∀x,eQ (w x) (T x).1 (T x).2=true
theorem Cj {x:Str}(h:eG x):PyData.canLay0 (.str x)=true:=by
 show (x.cps.all fun c=>decide (c<0x110000))=true
 rw [<-Array.all_toList,JU]
 intro c hc
 have:=h.az c hc
 exact decide_eq_true (by omega)
def fJ (lo lo2:Option Int):Bool:=match lo2,lo with
 | none,_=>true
 | some _,none=>false
 | some a,some b=>decide (a<=b)
def dJ (hi hi2:Option Int):Bool:=match hi2,hi with
 | none,_=>true
 | some _,none=>false
 | some a,some b=>decide (b<=a)
def jr (s t:Sx):Bool:=fJ s.1 t.1&&dJ s.2 t.2
def jX (T:Str->Sx)(m:Nat):Prop:=∀ss:List Str,(∀x∈ss,T x≠cO)->ss.Nodup->ss.length<=m
inductive xT (aA:Addr) (vs:List V) (H:Hp) (Q:VK) (_:XK):Prop
 | mk (fv:V) (x:Str) (T:Str->Sx) (_:vs=[fv,.str x]) (_:FV H fv T) (_:∀v H',SV aA H' v (T x)->ae H H'->Q v H')
inductive o7 (aA:Addr) (vs:List V) (H:Hp) (Q:VK) (_:XK):Prop
 | mk (fv sv:V) (x:Str) (T:Str->Sx) (s:Sx) (_:vs=[fv,.str x,sv]) (_:FV H fv T) (_:SV aA H sv s) (_:jX T 62) (_:∀v H',FV H' v (cb T x s)->ae H H'->Q v H')
inductive ug (K:Ih) (vs:List V) (H:Hp) (Q:VK) (_:XK):Prop
 | mk (p q:Addr) (s t:Sx) (_:vs=[.ref p,.ref q]) (_:ar K H p [vO s.1,vO s.2]) (_:ar K H q [vO t.1,vO t.2]) (_:Q (.bl (jr s t)) H)
inductive v3  (vs:List V) (H:Hp) (Q:VK) (_:XK):Prop
 | mk (fv gv:V) (T U:Str->Sx) (_:vs=[fv,gv]) (_:FV H fv T) (_:FV H gv U) (_:jX T 63) (_:∀b H',(b=true↔∀x,jr (U x) (T x)=true)->ae H H'->Q (.bl b) H')
theorem sN (s:Sx):jr s cO=true:=by
 obtain⟨a,b⟩:=s
 cases a <;> cases b <;> rfl
theorem AH {T U:Str->Sx}{ss:List Str}(hm:∀x,x∈ss↔T x≠cO):(ss.map fun x=>jr (U x) (T x)).all id=true↔∀x,jr (U x) (T x)=true:=by
 rw [JU]
 constructor
 ·intro h x
  by_cases e:T x=cO
  ·rw [e];exact sN _
  ·exact h _ (Iv.mpr ⟨x,(hm x).mpr e,rfl⟩)
 ·intro h b hb
  obtain⟨x,_,rfl⟩:=Iv.mp hb
  exact h x
section
variable {X:Cx}
end
theorem Ck (s:Sx):jr s s=true:=by
 obtain⟨a,b⟩:=s
 cases a <;> cases b <;> simp [jr,fJ,dJ]
theorem LT.up {H:Hp}{d:Addr}{T:Str->Sx}{m n:Nat}(h:LT H d T m)(le:m<=n):LT H d T n:=by
 obtain⟨kvs,ks,g1,g2,g3,g4⟩:=h
 exact⟨kvs,ks,g1,g2,g3,Ir g4 le⟩
inductive xU (K:Ih) (vs:List V) (H:Hp) (Q:VK) (_:XK):Prop
 | mk (n:Int) (q:Addr) (lo hi:Option Int) (_:vs=[.int n,.ref q]) (_:ar K H q [vO lo,vO hi]) (_:Q (.bl (eQ n lo hi)) H)
inductive nG (K:Ih) (F:Option Int->Option Int->Int->Rs) (vs:List V) (H:Hp) (Q:VK) (_:XK):Prop
 | mk (p:Addr) (n:Int) (lo hi:Option Int) (_:vs=[.ref p,.int n]) (_:ar K H p [vO lo,vO hi]) (_:∀v H',RV H' v (F lo hi n)->ae H H'->Q v H')
inductive xV (K:Ih) (vs:List V) (H:Hp) (Q:VK) (_:XK):Prop
 | mk (p:Addr) (w:Str) (n:Int) (side:Bool) (lo hi:Option Int) (_:vs=[.ref p,.str w,.int n,.bl side]) (_:ar K H p [vO lo,vO hi]) (_:∀v H',RV H' v (dU w lo hi n side)->ae H H'->Q v H')
def de (T:Str->Sx)(b:Bool)(x:Str)(n:Int)(side:Bool):Rs:=dU (wT b) (T x).1 (T x).2 n side
def iN (T:Str->Sx):End->List (Option (Str->Sx))
 | .stop=>[]
 | .go _=>[some T]
 | .cm b x n _ _=>[(de T b x n true).map (cb T x),(de T b x n false).map (cb T x)]
def BV (H:Hp)(u:V):Option (Str->Sx)->Prop
 | none=>u=.aT
 | some T=>FV H u T
theorem BV.av {H H':Hp}{u:V}{o:Option (Str->Sx)}(h:BV H u o)(k:∀p xs,H p=some (.tup xs)->H' p=some (.tup xs)):BV H' u o:=by
 cases o with
 | none=>exact h
 | some T=>exact FV.av h k
def mL (H:Hp)(us:List V)(os:List (Option (Str->Sx))):Prop:=Paired (BV H) us os
def cx (T:Str->Sx)(e:End):List (Nat×(Str->Sx)):=((bH e).zip (iN T e)).filterMap fun p=>p.2.map fun U=>(p.1,U)
inductive v5 (aA:Addr) (vs:List V) (H:Hp) (Q:VK) (_:XK):Prop
 | mk (fv:V) (ea:Addr) (T:Str->Sx) (e:End) (_:vs=[fv,.ref ea]) (_:FV H fv T) (_:H ea=some (.tup (dm e))) (_:jX T 62) (_:∀(t:Addr) (us:List V) (H':Hp),H' t=some (.tup us)->mL H' us (iN T e)->ae H H'->Q (.ref t) H')
def PV (H:Hp)(v:V)(p:Nat×(Str->Sx)):Prop:=∃q u,v=.ref q/\H q=some (.tup [.int p.1,u])/\FV H u p.2
theorem PV.av {H H':Hp}{v:V}{p:Nat×(Str->Sx)}(h:PV H v p)(k:∀p xs,H p=some (.tup xs)->H' p=some (.tup xs)):PV H' v p:=by
 obtain⟨q,u,e,h1,h2⟩:=h
 exact⟨q,u,e,k _ _ h1,h2.av k⟩
def nH (H:Hp)(vs:List V)(ps:List (Nat×(Str->Sx))):Prop:=Paired (PV H) vs ps
theorem nH.av {H H':Hp}(k:∀p xs,H p=some (.tup xs)->H' p=some (.tup xs)):∀{vs:List V} {ps:List (Nat×(Str->Sx))},nH H vs ps->nH H' vs ps
 | _,_,.nil=>.nil
 | _,_,.cons h t=>.cons (h.av k) (nH.av k t)
theorem mL.av {H H':Hp}(k:∀p xs,H p=some (.tup xs)->H' p=some (.tup xs)):∀{vs:List V} {ps:List (Option (Str->Sx))},mL H vs ps->mL H' vs ps
 | _,_,.nil=>.nil
 | _,_,.cons h t=>.cons (h.av k) (mL.av k t)
theorem nH.same {H H':Hp}{vs:List V}{ps:List (Nat×(Str->Sx))}(h:nH H vs ps)(s:ae H H'):nH H' vs ps:=h.av fun p xs e=>s _ _ e
theorem mL.same {H H':Hp}{vs:List V}{ps:List (Option (Str->Sx))}(h:mL H vs ps)(s:ae H H'):mL H' vs ps:=h.av fun p xs e=>s _ _ e
inductive sO (aA:Addr) (vs:List V) (H:Hp) (Q:VK) (_:XK):Prop
 | mk (fv:V) (ea:Addr) (T:Str->Sx) (e:End) (_:vs=[fv,.ref ea]) (_:FV H fv T) (_:H ea=some (.tup (dm e))) (_:jX T 62) (_:∀(t:Addr) (vs:List V) (H':Hp),H' t=some (.tup vs)->nH H' vs (cx T e)->ae H H'->Q (.ref t) H')
def pX (T:Str->Sx):Prop:=∀x,T x≠cO->PyData.canLay0 (.str x)=true
theorem AI {T:Str->Sx}(h:pX T):∀ss:List Str,(∀x∈ss,T x≠cO)->(fZ T ss).canLay0=true
 | [],_=>rfl
 | x::ss,hs=>by
  have ih:=AI h ss fun y hy=>hs y (Iz _ hy)
  show ((PyData.canLay0 (.str x)&&((dS (T x)).canLay0&&true))&&(fZ T ss).canLay0)=true
  rw [h x (hs x (Iy ..)),y9,ih]
  rfl
theorem FK (T:Str->Sx)(ss:List Str):(fZ T ss).depth<=3:=by
 have go:∀ss:List Str,PyData.depthAll (ss.map (dF T))<=2:=by
  intro ss
  induction ss with
  | nil=>exact IF _
  | cons x ss ih =>
   show max (max 0 (max ((dS (T x)).depth) 0)+1) (PyData.depthAll (ss.map (dF T)))<=2
   have hd:(dS (T x)).depth<=1:=by
    obtain⟨a,b⟩:=T x
    cases a <;> cases b <;> (show (1:Nat)<=1;decide)
   omega
 show PyData.depthAll (ss.map (dF T))+1<=3
 have:=go ss
 omega
theorem Eh {T:Str->Sx}{e:End}(h:(bH e).length<2):iN T e=(bH e).map fun _=>some T:=by
 cases e with
 | stop=>rfl
 | go p=>rfl
 | cm b x n p q=>exact absurd h (by show ¬2<2;omega)
theorem xW {H:Hp}{fv:V}{T:Str->Sx}(h:FV H fv T):∀l:List Nat,mL H (IX l.length fv) (l.map fun _=>some T)
 | []=>.nil
 | _::l=>.cons h (xW h l)
def o8 (H:Hp)(vs:List V)(rs:List Rs):Prop:=Paired (RV H) vs rs
theorem o8.same {H H':Hp}(s:ae H H'):∀{vs:List V} {rs:List Rs},o8 H vs rs->o8 H' vs rs
 | _,_,.nil=>.nil
 | _,_,.cons h t=>.cons (h.same s) (o8.same s t)
theorem o8.put {H:Hp}{l:Addr}{xs:List V}{o:HO}(hl:H l=some (.lst xs)):∀{vs:List V} {rs:List Rs},o8 H vs rs->o8 (upd H l o) vs rs
 | _,_,.nil=>.nil
 | _,_,.cons h t=>.cons (h.put hl) (o8.put hl t)
theorem RV.sv {aA:Addr}{H:Hp}{v:V}{s:Sx}(h:RV H v (some s)):SV aA H v s:=by
 obtain⟨a,b⟩:=s
 obtain⟨p,e,h⟩:=h
 exact .inl ⟨p,e,h⟩
def nI (ss:List Str):PyData:=.tuple (ss.map fun x=>.tuple [.str x,.tuple [.int 0,.int 0]])
inductive xX  (vs:List V) (H:Hp) (Q:VK) (_:XK):Prop
 | mk (plv:V) (ps:List Piece) (xs:List Str) (m:Nat) (_:vs=[plv]) (_:aL H plv (bK ps)) (_:cI xs m ps) (_:xs.length<64) (_:(bA ps).length<=4000) (_:∀(v:V) (ss:List Str) (H':Hp),aL H' v (nI ss)->ss.Perm (cQ (bA ps))->sortedS ss=true->ae H H'->Q v H')
theorem hR:∀ss:List Str,bX (ss.map fun x=>PyData.tuple [.str x,.tuple [.int 0,.int 0]])=true
 | []=>rfl
 | x::ss=>by
  show (true&&bX (ss.map fun x=>PyData.tuple [.str x,.tuple [.int 0,.int 0]]))=true
  rw [hR ss];rfl
theorem AJ {T:Str->Sx}{e:End}{i k:Nat}{o:Option (Str->Sx)}(h1:(bH e)[i]?=some k)(h2:(iN T e)[i]?=some o) :
  (((bH e).zip (iN T e)).take (i+1)).filterMap (fun p=>p.2.map fun U=>(p.1,U))=(((bH e).zip (iN T e)).take i).filterMap (fun p=>p.2.map fun U=>(p.1,U))++(o.map fun U=>(k,U)).toList:=by
 have hz:((bH e).zip (iN T e))[i]?=some (k,o):=by rw [List.getElem?_zip_eq_some];exact⟨h1,h2⟩
 rw [IP,hz,List.filterMap_append]
 cases o <;> rfl
theorem fC {α β : Type}{F:α->β->Prop}{l:List α}{m:List β}(h:Paired F l m){i:Nat}{x:α}(e:l[i]?=some x):∃y,m[i]?=some y/\F x y:=LS.lY h e
theorem dE {α β : Type}{F:α->β->Prop}:∀{l l':List α} {m m':List β},Paired F l m->Paired F l' m'->Paired F (l++l') (m++m')
 | _,_,_,_,.nil,h=>h
 | _,_,_,_,.cons r t,h=>.cons r (dE t h)
section
variable {prog:Program}{w:World}{A:Around}{E:Value->Shared->Prop}{s:Shared}
end
section
variable {X:Cx}
end
def pY (lo hi:Option Int):Rs:=match lo,hi with
 | some a,some b=>if b<a then none else some (some a,some b)
 | lo,hi=>some (lo,hi)
theorem AK (lo hi:Option Int)(n:Int):pY lo (some (jh hi n))=gM lo hi n:=by
 cases lo <;> rfl
theorem Cm (lo hi:Option Int)(n:Int):pY (some (ji lo n)) hi=iY lo hi n:=by
 cases hi <;> rfl
theorem Ei {lo hi:Option Int}{n:Int}(le:o3 lo hi):pY (if lo=some n then some (n+1) else lo) (if hi=some n then some (n-1) else hi)=jS lo hi n:=by
 unfold jS
 by_cases h1:lo=some n
 ·rw [if_pos h1,if_pos h1]
  by_cases h2:hi=some n
  ·rw [if_pos h2,if_pos h2]
   show (if n-1<n+1 then none else _)=none
   rw [if_pos (by omega)]
  ·rw [if_neg h2,if_neg h2]
   subst h1
   cases hi with
   | none=>rfl
   | some h =>
    have:n<=h:=le
    have:¬h=n:=fun z=>h2 (by rw [z])
    show (if h<n+1 then none else _)=_
    rw [if_neg (by omega)]
 ·rw [if_neg h1,if_neg h1]
  by_cases h2:hi=some n
  ·rw [if_pos h2,if_pos h2]
   subst h2
   cases lo with
   | none=>rfl
   | some a =>
    have:a<=n:=le
    have:¬a=n:=fun z=>h1 (by rw [z])
    show (if n-1<a then none else _)=_
    rw [if_neg (by omega)]
  ·rw [if_neg h2,if_neg h2]
   cases lo with
   | none=>rfl
   | some a =>
    cases hi with
    | none=>rfl
    | some h =>
     have:a<=h:=le
     show (if h<a then none else _)=_
     rw [if_neg (by omega)]
inductive xY  (vs:List V) (H:Hp) (Q:VK) (_:XK):Prop
 | mk (p:Addr) (b:Bool) (n:Int) (side:Bool) (lo hi:Option Int) (_:vs=[.ref p,.str (wT b),.int n,.bl side]) (_:H p=some (.tup [vO lo,vO hi])) (_:o3 lo hi) (_:∀v H',RV H' v (dU (wT b) lo hi n side)->ae H H'->Q v H')
theorem LT.put {H:Hp}{d l:Addr}{T:Str->Sx}{m:Nat}{xs:List V}{o:HO}(h:LT H d T m)(hl:H l=some (.lst xs)):LT (upd H l o) d T m:=by
 refine h.av (fun u e=>?_) fun p zs e=>by rw [ao (bJ e hl (by intro z;cases z))];exact e
 obtain⟨kvs,ks,g,_⟩:=h
 rw [ao (bJ g hl (by intro z;cases z))]
 exact e
inductive AL  (vs:List V) (H:Hp) (Q:VK) (_:XK):Prop
 | mk (plv:V) (ps:List Piece) (xs:List Str) (m:Nat) (_:vs=[plv]) (_:aL H plv (bK ps)) (_:cI xs m ps) (_:xs.length<64) (_:∀(l:Addr) (ss:List Str) (H':Hp),H' l=some (.lst (ss.map V.str))->ss.Perm (cQ (bA ps))->sortedS ss=true->ss.length<64->ae H H'->Q (.ref l) H')
def KeysAre (kvs:List (Key×V))(ns:List Str):Prop:=kvs.map (·.1)=(cQ ns).map Sum.inr
theorem zd (ns:List Str)(x:Str):cQ (ns++[x])=LS.putIn (cQ ns) x:=by unfold cQ;rw [J9];rfl
theorem KeysAre.put {kvs:List (Key×V)}{ns:List Str}(h:KeysAre kvs ns)(x:Str)(v:V):KeysAre (putK kvs (Sum.inr x) v) (ns++[x]):=by
 unfold KeysAre at h ⊢
 rw [zd]
 unfold LS.putIn
 rcases tV (kvs:=kvs) (k:=(Sum.inr x:Key)) (v:=v) with ⟨e1,hm⟩ | ⟨e1,hn⟩
 ·rw [h] at hm
  obtain⟨y,hy,e⟩:=Iv.mp hm
  cases e
  rw [if_pos hy,e1,h]
 ·rw [if_neg (fun z=>hn (by rw [h];exact Iv.mpr ⟨x,z,rfl⟩)),e1,h,Iw];rfl
theorem KeysAre.len {kvs:List (Key×V)}{ns:List Str}(h:KeysAre kvs ns):kvs.length=(cQ ns).length:=by have:=congrArg Jo h;simpa using this
theorem Cn {ns xs:List Str}(h:∀x∈ns,x∈xs):(cQ ns).length<=xs.length:=sub_len (pS _) fun x hx=>h x (kj.mp hx)
theorem Ej {xs:List Str}{m:Nat}{ps:List Piece}(ok:cI xs m ps):(bA ps).length<=ps.length*(2*m+1):=by
 unfold bA
 have h:∀p∈ps,(pNames p).length<=2*m+1:=fun p hp=>by
  have h1:=(ok.fe p hp).1
  unfold pNames
  rw [Io]
  have h2:(p.1.flatMap cJ).length<=2*p.1.length:=by
   induction p.1 with
   | nil=>simp
   | cons d ds ih =>
    rw [List.flatMap_cons,Io,I0]
    have:(cJ d).length<=2:=by cases d <;> simp [cJ]
    omega
  have h3:(gN p.2).length<=1:=by cases p.2 <;> simp [gN]
  omega
 clear ok
 induction ps with
 | nil=>simp
 | cons p ps ih =>
  rw [List.flatMap_cons,Io,I0]
  have h1:=h p (Iy ..)
  have h2:=ih fun q hq=>h q (Iz _ hq)
  rw [Nat.add_mul]
  omega
theorem xa {K:Ih}{cd:Value}{q:Str}(h:JH K cd q=true):Kx K cd=true:=by
 unfold JH at h
 unfold Kx
 split at h
 ·split at h
  ·rename_i ho
   dsimp only
   rw [ho]
  ·cases h
 ·cases h
theorem Ek {prog:Program}{w:World}{A:Around}{E:Value->Shared->Prop}{s:Shared}{Q:Value->Shared->Prop}(q:Q (.ref s.heap.objs.size) { s with heap:=s.heap.push (dn w) }):wpAny (model prog w) A (newSet (.type "set")) Q E s:=by
 unfold newSet setsByText
 refine KS (KS (Ln (KU ?_)))
 dsimp only
 simp only [newObj]
 first
  | exact Lj (KU q)
  | exact KS (Lj (KU q))
  | exact KS (Lj (KU (KU q)))
  | exact KS (Lj q)
section
variable {X:Cx}
theorem El {e:Expr}{k:Nat}{pos:Pos}{te:TE}(hc:Kx X.K X.env.code=true)(he:PE X e te)(hk:displayRoad k [e]=.oneByOne:=by rfl)(hs:starEach [e] X.env=[(false,eval e X.env)]:=by rfl) :
  PE X (.Set [e] k pos) (fun Ic H Q=>∀l,H l=none->te Ic (upd H l (cT X.prog X.w l [])) fun x H1=>H1 l=some (cT X.prog X.w l [])/\∃kk,x=kV kk/\Q (.ref l) (upd H1 l (cT X.prog X.w l [kk]))):=by
 intro pins s Ic H Q I h
 rw [arm_eval_Set]
 refine KS (K8 ?_)
 refine KS (PySem.W.kds_main I.i0 hc fun b=>?_)
 rw [hs,hk]
 unfold setDisplay
 dsimp only
 rw [if_neg (by decide)]
 refine KS (Ek ?_)
 dsimp only
 simp only [IK,List.map_nil,I0,Kq,Nat.reduceAdd,gt_iff_lt,Nat.reduceLT,if_false,List.findIdx?_cons,List.findIdx?_nil,Option.map_none,Option.getD_none,List.take_succ_cons,List.take_zero,List.drop_succ_cons,List.drop_nil,evalAll,Ju]
 have hS:eS (aU X.prog X.w) (s.heap.push (dn X.w)) s.heap.objs.size []:=ni rfl (Ip _ rfl)
 have I1:Inv X pins Ic (upd H s.heap.objs.size (cT X.prog X.w s.heap.objs.size [])) { s with heap:=s.heap.push (dn X.w) }:=I.laid (t':=s.toks) (fun b o e=>Im _ e) (Ij _) (ll hS)
 refine KS (KY ?_)
 refine KS (KS (KS (br (he pins _ Ic _ _ I1 (h _ I.fresh)) fun v s1 ⟨x,H1,I2,rx,hl1,kk,ex,q⟩=>KS (K8 (KU ?_)))))
 subst ex
 refine KS (KY (KU (KU ?_)))
 refine KS (KY ?_)
 simp only [JK,Ko]
 refine KS (KS (KS (sH (oF rx) (I2.sG hl1) (by decide) fun h' b S' c=>KU ?_)))
 refine KU ?_
 rw [if_neg (by decide)]
 refine KU ?_
 refine KS (KU (KU (KU ?_)))
 have e1:LS.putIn ([]:List Key) kk=[kk]:=by unfold LS.putIn;rw [if_neg (by simp)];rfl
 rw [e1] at S'
 refine⟨.ref s.heap.objs.size,_,I2.write (t':=s1.toks+1) (x:=s.heap.objs.size) (e:=s.heap.objs.size) (by rw [hl1];exact trivial) (.inl rfl) (fun c u' hc hu=>b.extBut c u' hc hu) ?_ (ll S'),rfl,q⟩
 obtain⟨o,_,_,_,So⟩:=S'
 exact⟨o,So.at_⟩
end
section
variable {prog:Program}{w:World}{A:Around}{E:Value->Shared->Prop}{s:Shared}
theorem AM {d:Addr}(hd:(d == sysModules)=false) :
  MeetsIn prog w (Builtin.«dict.__len__» ⟨[.ref d],[]⟩) (fun _ R s=>∃(o:Obj) (es:Array DictEntry) (ep:Nat),s.heap.get? d=some o/\o.data=.dict es ep/\R (.ok (.ret (.int es.size s.toks))) { s with toks:=s.toks+1 }) :=
 .of_wp fun A R s ⟨o,es,ep,ho,hdat,h⟩=>by
  show wpAny _ _ (dictSize d >>= _) _ _ s
  unfold dictSize
  refine KS (KS (wpAny_dictEntries ho hdat (KU ?_)))
  show wpAny _ _ (Builtin.Dict.pendingCount d >>= _) _ _ s
  refine KS (wpAny_pendingCount_other hd ?_)
  refine wpAny_ret_mkInt ?_
  rw [Nat.add_zero];exact h
theorem Em {d:Addr}{o:Obj}{es:Array DictEntry}{ep:Nat}{Q:Value->Shared->Prop}(hd:(d == sysModules)=false)(ho:s.heap.get? d=some o)(hc:o.ExactDict)(hdat:o.data=.dict es ep)(hfit:(es.size:Int)<2 ^ 63)
  (h:Q (.int es.size (s.toks+1)) { s with toks:=s.toks+1+1 }):wpAny (model prog w) A (call (.builtin "len") [.ref d]) Q E s:=by
 refine Calls.call_function_entry kind_len plain_len entry_len (args_len1 _) ?_
 have hT:s.TypeIs (.ref d) "dict" := ⟨o,ho,hc.1⟩
 unfold Builtin.«len»
 refine KS (m:=oneArg "len" _) (KU ?_)
 refine KS (m:=callSpecial? (.ref d) (Str.ofString "__len__")) (wpAny_callSpecial?_slot (name:=Str.ofString "__len__") hT F.slot_dict_len
  (call_meetsIn F.slot_dict_len hT F.entry_dict_len (F.args_dict_len_1 _) (AM hd) ⟨o,es,ep,ho,hdat,?_⟩))
 show wpAny _ _ _ _ _ { s with toks:=s.toks+1 }
 refine KS (KY (KU ?_))
 refine KS (wpAny_letGo ?_)
 show wpAny _ _ (if ((es.size:Nat):Int)<0 then _ else _) _ _ _
 rw [if_neg (by omega)]
 show wpAny _ _ (if ((es.size:Nat):Int) >= 2 ^ 63 then _ else _) _ _ _
 rw [if_neg (by omega)]
 exact KS (wpAny_mkInt (KU ⟨_,rfl,h⟩))
end
section
variable {X:Cx}
theorem ze:eO X (.builtin "len") (fun xs H Q=>∃a kvs,xs=[V.ref a]/\H a=some (fI X.prog X.w a kvs)/\Q (.int kvs.length) H):=by
 intro pins s Ic H xs us Q I r h
 obtain⟨a,kvs,rfl,ha,q⟩:=h
 obtain⟨u,rfl,ru⟩:=vals1 r
 cases ru
 obtain⟨h1,h2,xs,o,es,ep,g1,g2,g3,g4,g5,g6⟩:=(show nE X.prog X.w a kvs s.heap from (I.aW a _ ha).1)
 have hz:es.size=kvs.length:=by rw [g6.len,<-Jg,g4,Ig]
 have hn:=jJ
 refine Em h1 g1 g2 g3 (by omega) ?_
 rw [hz]
 exact⟨.int _,H,I.tok _,⟨_,rfl⟩,q⟩
theorem Co {pos:Pos}{keys:List (Option Expr)}{values:List Expr}{trs:List (TE×TE)}(hu:X.A.units+66<cLine)(h:Dd X pos keys values trs)(hall:keys.all (·.isSome)=true)(hl:keys.length=values.length)(h0:keys≠[])
  (h15:keys.length<=15):PE X (.Dict keys values pos) (fun Ic H Q=>∀p,H p=none->vG trs Ic (upd H p (fI X.prog X.w p [])) fun ps H2=>H2 p=some (fI X.prog X.w p [])/\∃k v d,ps=[(.ref k,v)]/\jV d/\aL H2 (.ref k) d/\Q (.ref p) (upd H2 p (fI X.prog X.w p [(d,k,v)]))):=by
 intro pins s Ic H Q I q
 have hn:=I.aW.fresh (Ij s.heap.objs.size)
 obtain⟨_,hb,_⟩:=(show b6 X.prog X.w H _ s.heap.objs.size (.dK []) from vF s.heap I.big)
 have D0:nE X.prog X.w s.heap.objs.size [] (s.heap.push { cls:=.type "dict",data:=.dict #[] }):=⟨hb,IF _,[],_,#[],0,Ip _ rfl,⟨rfl,rfl,rfl⟩,rfl,rfl,JS,.nil⟩
 have I1:=I.laid (a:=s.heap.objs.size) (o:=fI X.prog X.w s.heap.objs.size []) (h':=s.heap.push { cls:=.type "dict",data:=.dict #[] }) (t':=s.toks) (fun _ _ q=>Im _ q) (Ij _) (pW D0)
 refine wpAny_Dict_any hall hl h0 h15 (br (h pins _ Ic _ _ I1 (q _ hn)) fun ws s2 ⟨ps,H2,I2,rel,e,k,v,d,ep,hk,r,q2⟩=>?_)
 subst ep
 cases rel with
 | @cons _ wp _ _ hr t =>
 cases t
 obtain⟨wk,wv⟩:=wp
 obtain⟨r1,r2⟩:=hr
 cases (show wk=Value.ref k from r1)
 obtain⟨hd0,_,xs,kx,dd⟩:=rA I2 e (fun p hp=>nomatch hp)
 cases kx
 unfold storeAll
 simp only [JK,Ko]
 refine KS (KS (wpAny_dictSet_heap (knd:=jW X.prog X.w) (show X.A.units+64<cLine by omega) (key_is I2 hk r) dd (fun h' hm' hs'=>KU (KU ?_)) (IF _)))
 obtain⟨o',es,ep,g1,g2,g3,g4,g5,g6⟩:=id hm'
 refine⟨.ref s.heap.objs.size,_,I2.write (t':=_) (x:=s.heap.objs.size) (e:=s.heap.objs.size) (by rw [e];exact trivial) (.inl rfl) (fun c u' hc hu=>(hs'.2 c hc).trans hu) ⟨o',g1⟩ (pW ⟨hd0,(by show 1<=sizeLine;decide),[(d,k,wv)],o',es,ep,g1,g2,g3,g4,g6,.cons ⟨rfl,rfl,r2⟩ .nil⟩),rfl,q2⟩
end
section
variable {X:Cx}
end
theorem pZ {A:Around}{k:Nat}(hr:cZ k A):A.units+66<cLine:=by have:=hr.un;omega
section
variable {P:Program}{w:World}{K:Ih}{mg:Str->Option Value}{base:Heap}
theorem bR.HU {x qual:Str}{st:Stmt}{f:Addr}{fd:FuncData}{N ps:List Str}{k:Nat}{sp:Sp}(F:bR K x qual st f fd)(S:aO N ps (au st))(len:∀vs H Q E,sp vs H Q E->vs.length=ps.length)
  (hbody:∀(cdv:Value) (A:Around) (outer:List Env) (s:Shared) (H:Hp) (vs:List V) (Q:VK) (E:XK),Kx K cdv=true->cZ k (A.deeper (envOfC qual (au st) s.heap.objs.size f cdv))->sp vs H Q E ->
   ∃t,jE (pJ bQ P w K mg base N qual (au st) f cdv A outer s H E).xq (dH st) t/\t { nx:=fun _ H'=>Q .aT H',rt:=Q } (start N vs) H):bu P w K mg base bQ (k+1) f fd ps sp:=by
 obtain⟨oc,od,kV,doc,pm,an,cdv,ct,osl,rfl,lk,hcd⟩:=F.ex
 refine C2 lk hcd S len fun A outer s H vs Q E hr hsp=>?_
 obtain⟨t,h,q⟩:=hbody cdv A outer s H vs Q E (xa hcd) hr hsp
 exact⟨t,h.xq,q⟩
end
def dI:Nat->List (PyData×Addr)->List (PyData×Addr×V)
 | _,[]=>[]
 | n,p::ps=>(p.1,p.2,.int (n:Nat))::dI (n+1) ps
theorem p7:∀(n:Nat) (ms:List (PyData×Addr)),(dI n ms).length=ms.length
 | _,[]=>rfl
 | n,_::ms=>congrArg (· + 1) (p7 (n+1) ms)
theorem v7:∀(n:Nat) (ms:List (PyData×Addr)) (p:PyData×Addr),dI n (ms++[p])=dI n ms++[(p.1,p.2,.int ((n+ms.length:Nat):Int))]
 | n,[],p=>rfl
 | n,q::ms,p=>by
  show (q.1,q.2,V.int (n:Nat))::dI (n+1) (ms++[p])=_
  rw [v7 (n+1) ms p,show n+1+ms.length=n+(q::ms).length by rw [I0];omega]
  rfl
theorem v9:∀(n:Nat) (ms:List (PyData×Addr)),∀q∈dI n ms,∃p∈ms,q.1=p.1/\q.2.1=p.2
 | _,[],q,hq=>nomatch hq
 | n,p::ms,q,hq=>by
  rcases Ii.mp hq with rfl | hq
  ·exact⟨p,Iy ..,rfl,rfl⟩
  ·obtain⟨p',hp,r⟩:=v9 (n+1) ms q hq
   exact⟨p',Iz _ hp,r⟩
theorem mf (d:PyData):∀(n:Nat) (ms:List (PyData×Addr)),ft (dI n ms) d=if d∈ms.map (·.1) then some (.int ((n+(ms.map (·.1)).idxOf d:Nat):Int)) else none
 | n,[]=>by simp [dI,ft]
 | n,p::ms=>by
  have ih:=mf d (n+1) ms
  by_cases h:p.1=d
  ·have e1:ft (dI n (p::ms)) d=some (.int (n:Nat)):=by
    unfold ft dI
    rw [KP (by exact decide_eq_true h)]
    rfl
   rw [e1,if_pos (by rw [IK,h];exact Iy ..),IK,h,List.idxOf_cons_self]
   rfl
  ·have e1:ft (dI n (p::ms)) d=ft (dI (n+1) ms) d:=by
    show ft ((p.1,p.2,V.int (n:Nat))::dI (n+1) ms) d=_
    unfold ft
    rw [KQ (by rw [decide_eq_false h];decide)]
   rw [e1,ih,IK]
   by_cases hm:d∈ms.map (·.1)
   ·rw [if_pos hm,if_pos (Iz _ hm),List.idxOf_cons,beq_false_of_ne h]
    simp only [cond_false]
    congr 3
    omega
   ·rw [if_neg hm,if_neg (fun z=>(Ii.mp z).elim (fun z=>h z.symm) hm)]
structure ij (P:Program) (w:World) (C:Addr) (H:Hp) (r m d:Addr) (ms:List (PyData×Addr)):Prop where
 ob:∃dx,H r=some (.ins C dx (sJ (.ref m) (.ref d)))
 mem:H m=some (.lst (ms.map fun p=>V.ref p.2))
 nJ:H d=some (fI P w d (dI 0 ms))
 keys:∀p∈ms,jV p.1/\aL H (.ref p.2) p.1
noncomputable def mh (ms:List (PyData×Addr)) (d:PyData) (k:Addr):List (PyData×Addr):=if d∈ms.map (·.1) then ms else ms++[(d,k)]
section
variable {P:Program}{w:World}{C r m d:Addr}{H H':Hp}{ms:List (PyData×Addr)}
theorem ij.kW (A:ij P w C H r m d ms):Dh H (dI 0 ms):=fun q hq=>by
 obtain⟨p,hp,e1,e2⟩:=v9 0 ms q hq
 rw [e1,e2]
 exact A.keys p hp
theorem ij.HV (A:ij P w C H r m d ms):r≠m/\r≠d/\d≠m:=by
 obtain⟨dx,h1⟩:=A.ob
 refine⟨bJ h1 A.mem ?_,bJ h1 A.nJ ?_,bJ A.nJ A.mem ?_⟩ <;> (intro z;cases z)
end
section
variable (P:Program)(w:World)(C:Addr)
inductive rC  (vs:List V) (H:Hp) (Q:VK) (_:XK):Prop
 | mk (r dx k:Addr) (d0:PyData) (_:vs=[.ref r,.ref k]) (_:H r=some (.ins C dx [])) (_:jV d0) (_:aL H (.ref k) d0) (_:b0 d0=true) (_:∀(m d:Addr) (H':Hp),ij P w C H' r m d [(d0,k)]->(∀c o,H c=some o->c≠r->H' c=some o)->H m=none->H d=none->Q .aT H')
inductive rD  (vs:List V) (H:Hp) (Q:VK) (_:XK):Prop
 | mk (r m d k:Addr) (d0:PyData) (ms:List (PyData×Addr)) (_:vs=[.ref r,.ref k]) (_:ij P w C H r m d ms) (_:ms.length<=1000) (_:jV d0) (_:aL H (.ref k) d0) (_:b0 d0=true) (_:(∀p∈ms,b0 p.1=true)) (_:∀H',ij P w C H' r m d (mh ms d0 k)->ma m d H H'->Q (.int (((mh ms d0 k).map (·.1)).idxOf d0:Nat)) H')
end
inductive nK (ps:List Piece):Nat->Prop
 | zero:nK ps 0
 | step {i k:Nat} {ds:List cN} {e:End}:nK ps i->ps[i]?=some (ds,e)->k∈bH e->nK ps k
def df (ps:List Piece)(k:Nat):Prop:=∃i ds e,nK ps i/\ps[i]?=some (ds,e)/\k∈bH e/\k<=i
abbrev kI (ks:List Nat):List Key:=ks.map fun k:Nat=>(Sum.inl (k:Int):Key)
theorem wa {ks:List Nat}{k:Nat}:(Sum.inl (k:Int):Key)∈kI ks↔k∈ks:=by
 rw [Iv]
 constructor
 ·rintro⟨x,hx,e⟩
  have:=Sum.inl.inj e
  rw [show k=x by omega];exact hx
 ·intro h;exact⟨k,h,rfl⟩
theorem AN {ks:List Nat}{k:Nat}:LS.putIn (kI ks) (Sum.inl (k:Int))=kI (LS.putIn ks k):=by
 unfold LS.putIn
 by_cases h:k∈ks
 ·rw [if_pos h,if_pos (wa.mpr h)]
 ·rw [if_neg h,if_neg (fun z=>h (wa.mp z))]
  show _=(ks++[k]).map _
  rw [Iw];rfl
theorem xZ (ks:List Nat):kI ks=(ks.map fun k:Nat=>(k:Int)).map Sum.inl:=by rw [Js];rfl
structure zf (ps:List Piece) (ks ws:List Nat):Prop where
 nd:ks.Nodup
 lt:∀k∈ks,k<ps.length
 FL:∀k∈ks,nK ps k
 zero:0∈ks
 sub:∀k∈ws,k∈ks
 done:∀k∈ks,k∈ws\/∀ds e,ps[k]?=some (ds,e)->∀j∈bH e,j∈ks
theorem zf.all {ps:List Piece}{ks:List Nat}(h:zf ps ks []):∀k,k∈ks↔nK ps k:=fun k=>by
 refine⟨h.FL k,fun r=>?_⟩
 induction r with
 | zero=>exact h.zero
 | step r hp hk ih=>exact (h.done _ ih).elim (fun z=>nomatch z) fun z=>z _ _ hp _ hk
theorem x8 {ps:List Piece}(hin:qO ps){i:Nat}{ds:List cN}{e:End}(h:ps[i]?=some (ds,e)):∀k∈bH e,k<ps.length:=fun k hk=>by
 have h1:=hin _ (IB h)
 cases e with
 | stop=>cases hk
 | go p=>rw [Il.mp hk];exact h1
 | cm b x n p q =>
  rcases Ii.mp hk with z | z
  ·rw [z];exact h1.1
  ·rw [Il.mp z];exact h1.2
inductive uh  (vs:List V) (H:Hp) (Q:VK) (_:XK):Prop
 | mk (plv:V) (ps:List Piece) (_:vs=[plv]) (_:aL H plv (bK ps)) (_:qO ps) (_:0<ps.length) (_:ps.length<=60) (_:∀(t:Addr) (ks:List Nat) (H':Hp),H' t=some (.tup (vN ks))->(∀k,k∈ks↔nK ps k)->(∀k∈ks,k<ps.length)->ks.length<=60->ae H H'->Q (.ref t) H')
inductive x9  (vs:List V) (H:Hp) (Q:VK) (_:XK):Prop
 | mk (plv:V) (ps:List Piece) (_:vs=[plv]) (_:aL H plv (bK ps)) (_:qO ps) (_:0<ps.length) (_:ps.length<=60) (_:∀(t:Addr) (ks:List Nat) (H':Hp),H' t=some (.tup (vN ks))->(∀k,k∈ks↔df ps k)->ks.length<=60->ae H H'->Q (.ref t) H')
theorem nO {ss:List Int}{ks:List Nat}(h:ss.Perm (ks.map fun k:Nat=>(k:Int))):∃ms:List Nat,ss=ms.map (fun k:Nat=>(k:Int))/\ms.Perm ks:=by
 refine⟨ss.map JV,?_,?_⟩
 ·rw [Js]
  have:∀x∈ss,((fun k:Nat=>(k:Int)) ∘ JV) x=x:=fun x hx=>by
   obtain⟨k,_,rfl⟩:=Iv.mp (h.mem_iff.mp hx)
   show ((JV (k:Int):Nat):Int)=k
   omega
  rw [Kt this,List.map_id']
 ·have:=h.map JV
  rw [Js] at this
  have e:ks.map (JV ∘ fun k:Nat=>(k:Int))=ks:=by
   rw [Kt (g:=id) (fun x _=>by show JV (x:Int)=x;omega),List.map_id]
  rw [e] at this
  exact this
abbrev Cp:=Nat×(Str->Sx)
def T0:Str->Sx:=fun _=>cO
def FD (T:Str->Sx)(d:PyData):Prop:=∃ss:List Str,ko ss/\(∀x,x∈ss↔T x≠cO)/\d=fZ T ss
theorem FV.fd {H:Hp}{v:V}{T:Str->Sx}(h:FV H v T):∃d,FD T d/\aL H v d:=by
 obtain⟨p,xs,ss,rfl,hp,srt,hm,r⟩:=h
 exact⟨_,⟨ss,srt,hm,rfl⟩,.tup hp r⟩
theorem FD.fv {H:Hp}{v:V}{T:Str->Sx}{d:PyData}(h:FD T d)(r:aL H v d):FV H v T:=by
 obtain⟨ss,srt,hm,rfl⟩:=h
 obtain⟨p,xs,rfl,hp,r⟩:=aL.bF r
 exact⟨p,xs,ss,rfl,hp,srt,hm,r⟩
theorem FD.unique {T:Str->Sx}{d d':PyData}(h:FD T d)(h':FD T d'):d=d':=by
 obtain⟨ss,srt,hm,rfl⟩:=h
 obtain⟨ss',srt',hm',rfl⟩:=h'
 rw [srt.unique srt' fun x=>by rw [hm,hm']]
theorem AO {a b:Option Int}(h:dO a=dO b):a=b:=by
 cases a with
 | none=>cases b with
  | none=>rfl
  | some _=>cases h
 | some i=>cases b with
  | none=>cases h
  | some j=>injection h with h;rw [h]
theorem FN {a b:Sx}(h:dS a=dS b):a=b:=by
 obtain⟨a1,a2⟩:=a
 obtain⟨b1,b2⟩:=b
 have h1:[dO a1,dO a2]=[dO b1,dO b2]:=by injection h
 injection h1 with h1 h2
 injection h2 with h2 _
 rw [AO h1,AO h2]
theorem ya {T T':Str->Sx}:∀{ss ss':List Str},ss.map (dF T)=ss'.map (dF T')->ss=ss'/\∀x∈ss,T x=T' x
 | [],[],_=>⟨rfl,fun _ h=>nomatch h⟩
 | [],_::_,h=>by cases h
 | _::_,[],h=>by cases h
 | x::ss,y::ss',h=>by
  rw [IK,IK] at h
  injection h with h1 h2
  have h3:[PyData.str x,dS (T x)]=[PyData.str y,dS (T' y)]:=by injection h1
  injection h3 with h4 h5
  injection h5 with h5 _
  have exy:x=y:=by injection h4
  subst exy
  obtain⟨e,hr⟩:=ya h2
  refine⟨by rw [e],fun z hz=>?_⟩
  rcases Ii.mp hz with rfl | hz
  ·exact FN h5
  ·exact hr z hz
theorem FD.inj {T T':Str->Sx}{d:PyData}(h:FD T d)(h':FD T' d):T=T':=by
 obtain⟨ss,srt,hm,rfl⟩:=h
 obtain⟨ss',srt',hm',e⟩:=h'
 have e':ss.map (dF T)=ss'.map (dF T'):=by injection e
 obtain⟨rfl,hx⟩:=ya e'
 funext x
 by_cases h:x∈ss
 ·exact hx x h
 ·have h1:T x=cO:=Classical.byContradiction fun z=>h ((hm x).mpr z)
  have h2:T' x=cO:=Classical.byContradiction fun z=>h ((hm' x).mpr z)
  rw [h1,h2]
theorem FD.zero:FD T0 (.tuple []):=⟨[],⟨Jq.nil,JS⟩,fun x=>⟨fun h=>(nomatch h),fun h=>absurd rfl h⟩,rfl⟩
def CD (c:Cp)(d:PyData):Prop:=∃fd,FD c.2 fd/\d=.tuple [.int (c.1:Nat),fd]
theorem CD.iff {c c':Cp}{d d':PyData}(h:CD c d)(h':CD c' d'):d=d'↔c=c':=by
 obtain⟨fd,hf,rfl⟩:=h
 obtain⟨fd',hf',rfl⟩:=h'
 constructor
 ·intro e
  have e1:[PyData.int (c.1:Nat),fd]=[PyData.int (c'.1:Nat),fd']:=by injection e
  injection e1 with e2 e3
  injection e3 with e3 _
  have e4:(c.1:Int)=(c'.1:Int):=by injection e2
  subst e3
  exact Prod.ext (by omega) (hf.inj hf')
 ·rintro rfl
  rw [hf.unique hf']
noncomputable instance GY:DecidableEq Cp:=fun a b=>Classical.propDecidable (a=b)
theorem CD.mem {c:Cp}{d:PyData}(h:CD c d):∀{ds:List PyData} {cs:List Cp},Paired (fun d c=>CD c d) ds cs->(d∈ds↔c∈cs)/\ds.idxOf d=cs.idxOf c
 | _,_,.nil=>⟨by simp,rfl⟩
 | _,_,.cons (a:=d') (b:=c') (l₁:=ds) (l₂:=cs) h' t=>by
  obtain⟨i1,i2⟩:=CD.mem h t
  have e:=h'.iff h
  constructor
  ·rw [Ii,Ii,i1]
   constructor
   ·rintro (z | z)
    ·exact .inl (e.mp z.symm).symm
    ·exact .inr z
   ·rintro (z | z)
    ·exact .inl (e.mpr z.symm).symm
    ·exact .inr z
  ·rw [List.idxOf_cons,List.idxOf_cons]
   by_cases z:d' = d
   ·have z':=e.mp z
    rw [z,z',beq_self_eq_true,beq_self_eq_true]
    rfl
   ·have z':¬c' = c:=fun w=>z (e.mpr w)
    rw [beq_false_of_ne z,beq_false_of_ne z',i2]
theorem rE {T:Str->Sx}:∀ss:List Str,fH (fZ T ss)=true
 | []=>rfl
 | x::ss=>by
  have ih:d7 (ss.map (dF T))=true:=rE ss
  show ((true&&(fH (dS (T x))&&true))&&d7 (ss.map (dF T)))=true
  rw [ih]
  obtain⟨a,b⟩:=T x
  cases a <;> cases b <;> rfl
theorem CD.key {c:Cp}{d:PyData}(h:CD c d)(hl:pX c.2):jV d:=by
 obtain⟨fd,⟨ss,srt,hm,rfl⟩,rfl⟩:=h
 refine⟨?_,?_,?_,_,rfl⟩
 ·show (true&&(fH (fZ c.2 ss)&&true))=true
  rw [rE];rfl
 ·show (true&&((fZ c.2 ss).canLay0&&true))=true
  rw [AI hl ss fun x hx=>(hm x).mp hx];rfl
 ·show max 0 (max (fZ c.2 ss).depth 0)+1<=7
  have:=FK c.2 ss
  omega
section
variable (tops:Nat->Prop)(most:Nat)
open Classical in
noncomputable def bL (cs:List Cp) (c:Cp):Cp:=if tops c.1 then (c.1,T0) else if c∈cs\/cs.length<most then c else (c.1,T0)
noncomputable def fK (st:List Cp×List Nat) (l:Cp):List Cp×List Nat:=(LS.putIn st.1 (bL tops most st.1 l),st.2++[(LS.putIn st.1 (bL tops most st.1 l)).idxOf (bL tops most st.1 l)])
noncomputable def cE (cs:List Cp) (ls:List Cp):List Cp×List Nat:=ls.foldl (fK tops most) (cs,[])
theorem xb {cs ls:List Cp}{i:Nat}{l:Cp}(h:ls[i]?=some l):cE tops most cs (ls.take (i+1))=fK tops most (cE tops most cs (ls.take i)) l:=by
 unfold cE
 rw [IP,h,J9]
 rfl
def gG (e:End):List Nat->End
 | [a]=>.go a
 | ns=>Cd e ns
noncomputable def gB (ps:List Piece):Nat->List Cp->List Piece->List Cp×List Piece
 | 0,cs,outs=>(cs,outs)
 | f+1,cs,outs=>match cs[outs.length]? with
  | none=>(cs,outs)
  | some c=>match ps[c.1]? with
   | none=>(cs,outs)
   | some pc=>gB ps f (cE tops most cs (cx (bp c.2 pc.1) pc.2)).1 (outs++[(pc.1,gG pc.2 (cE tops most cs (cx (bp c.2 pc.1) pc.2)).2)])
end
theorem ui {T:Str->Sx}:∀ss:List Str,b0 (fZ T ss)=true
 | []=>rfl
 | x::ss=>by
  have ih:bX (ss.map (dF T))=true:=ui ss
  show ((true&&(b0 (dS (T x))&&true))&&bX (ss.map (dF T)))=true
  rw [ih]
  obtain⟨a,b⟩:=T x
  cases a <;> cases b <;> rfl
theorem CD.kq {c:Cp}{d:PyData}(h:CD c d):b0 d=true:=by
 obtain⟨fd,⟨ss,srt,hm,rfl⟩,rfl⟩:=h
 show (true&&(b0 (fZ c.2 ss)&&true))=true
 rw [ui];rfl
inductive sP  (vs:List V) (H:Hp) (Q:VK) (_:XK):Prop
 | mk (ea l:Addr) (e:End) (ns:List Nat) (_:vs=[.ref ea,.ref l]) (_:H ea=some (.tup (dm e))) (_:H l=some (.lst (vN ns))) (_:(ns.length=1\/ns.length=(bH e).length)) (_:ns.length<=2) (_:∀t H',H' t=some (.tup (dm (gG e ns)))->ae H H'->Q (.ref t) H')
abbrev o9 (ms:List (PyData×Addr))(cs:List Cp):Prop:=Paired (fun d c=>CD c d) (ms.map (·.1)) cs
inductive uj (P:Program) (w:World) (vs:List V) (H:Hp) (Q:VK) (_:XK):Prop
 | mk (la tp d:Addr) (most k:Nat) (T:Str->Sx) (dl:PyData) (hs:List Nat) (fv:V) (ms:List (PyData×Addr)) (cs:List Cp) (tops:Nat->Prop) (_:vs=[.ref la,.ref tp,.ref d,.int (most:Nat)]) (_:H la=some (.tup [.int (k:Nat),fv])) (_:aL H (.ref la) dl) (_:CD (k,T) dl) (_:pX T) (_:H tp=some (.tup (vN hs))) (_:(∀j,j∈hs↔tops j)) (_:H d=some (fI P w d (dI 0 ms))) (_:Dh H (dI 0 ms)) (_:o9 ms cs) (_:∀(a:Addr) (d':PyData) (H':Hp),aL H' (.ref a) d'->CD (bL tops most cs (k,T)) d'->ae H H'->Q (.ref a) H')
structure cM (xs:List Str) (T:Str->Sx):Prop where
 sup:∀x,T x≠cO->x∈xs
 le:∀x,o3 (T x).1 (T x).2
theorem cM.zero {xs:List Str}:cM xs T0:=⟨fun x h=>absurd rfl h,fun x=>True.intro⟩
theorem cM.set {xs:List Str}{T:Str->Sx}(h:cM xs T){x:Str}{s:Sx}(hx:x∈xs)(hs:o3 s.1 s.2):cM xs (cb T x s):=by
 refine⟨fun y hy=>?_,fun y=>?_⟩
 ·unfold cb at hy
  by_cases e:y=x
  ·rw [e];exact hx
  ·rw [if_neg e] at hy;exact h.sup y hy
 ·unfold cb
  by_cases e:y=x
  ·rw [if_pos e];exact hs
  ·rw [if_neg e];exact h.le y
theorem En {w:Str}{lo hi:Option Int}{n:Int}{side:Bool}{s:Sx}(le:o3 lo hi)(h:dU w lo hi n side=some s):o3 s.1 s.2:=by
 unfold dU at h
 split at h
 ·unfold lW at h
  split at h
  ·unfold gM at h
   cases lo with
   | none=>cases h;exact True.intro
   | some l =>
    dsimp only at h
    split at h
    ·cases h
    ·cases h;show l<=jh hi n;omega
  ·unfold iY at h
   cases hi with
   | none=>cases h;exact True.intro
   | some l =>
    dsimp only at h
    split at h
    ·cases h
    ·cases h;show ji lo n<=l;omega
 ·unfold vI at h
  split at h
  ·unfold mH at h
   split at h
   ·cases h;exact Int.le_refl n
   ·cases h
  ·unfold jS at h
   split at h
   ·next h1 =>
    split at h
    ·cases h
    ·next h2 =>
     cases h
     subst h1
     cases hi with
     | none=>exact True.intro
     | some b =>
      have:n<=b:=le
      have:¬b=n:=fun z=>h2 (by rw [z])
      show n+1<=b
      omega
   ·next h1 =>
    split at h
    ·next h2 =>
     cases h
     subst h2
     cases lo with
     | none=>exact True.intro
     | some a =>
      have:a<=n:=le
      have:¬a=n:=fun z=>h1 (by rw [z])
      show a<=n-1
      omega
    ·cases h;exact le
theorem cM.GZ {xs:List Str}{T:Str->Sx}(h:cM xs T){d:cN}(hd:cL xs d):cM xs (za T d):=by
 refine h.set hd.name ?_
 cases d with
 | put x n=>exact Int.le_refl n
 | copy x y=>exact h.le y
 | add x n =>
  have:=h.le x
  show o3 (jU (T x).1 n) (jU (T x).2 n)
  cases e1:(T x).1 with
  | none=>exact True.intro
  | some a=>cases e2:(T x).2 with
   | none=>exact True.intro
   | some b =>
    rw [e1,e2] at this
    have:a<=b:=this
    show a+n<=b+n
    omega
 | read x=>exact True.intro
 | tell x=>exact h.le x
theorem cM.p8 {xs:List Str}:∀{ds:List cN} {T:Str->Sx},cM xs T->(∀d∈ds,cL xs d)->cM xs (bp T ds)
 | [],_,h,_=>h
 | d::ds,T,h,hd=>cM.p8 (ds:=ds) (h.GZ (hd d (Iy ..))) fun e he=>hd e (Iz _ he)
theorem yb {xs:List Str}{c:Nat}{T:Str->Sx}{e:End}(h:cM xs T)(he:gx xs c e):∀p∈cx T e,p.1<c/\cM xs p.2:=fun p hp=>by
 unfold cx at hp
 obtain⟨⟨k,o⟩,ho,hm⟩:=KH.mp hp
 have hz:=Kg ho
 cases e with
 | stop=>cases hz.1
 | go q =>
  rw [Il.mp hz.2] at hm
  cases hm
  exact⟨by rw [Il.mp hz.1];exact he,h⟩
 | cm b x n q r =>
  have hk:k<c:=by
   rcases Ii.mp hz.1 with z | z
   ·rw [z];exact he.2.2.1
   ·rw [Il.mp z];exact he.2.2.2
  have key:∀side,o=(de T b x n side).map (cb T x)->p.1<c/\cM xs p.2:=fun side eo=>by
   dsimp only at hm
   rw [eo] at hm
   cases z:de T b x n side with
   | none=>rw [z] at hm;cases hm
   | some s =>
    rw [z] at hm
    cases hm
    exact⟨hk,h.set he.1 (En (h.le x) z)⟩
  rcases Ii.mp hz.2 with z | z
  ·exact key true z
  ·exact key false (Il.mp z)
theorem iO {xs:List Str}{T:Str->Sx}{e:End}(h:cM xs T):((cx T e).length=1\/(cx T e).length=(bH e).length)/\(cx T e).length<=2:=by
 cases e with
 | stop=>exact⟨.inr rfl,IF _⟩
 | go q=>exact⟨.inl rfl,by show 1<=2;decide⟩
 | cm b x n q r =>
  have e:cx T (.cm b x n q r)=((de T b x n true).map fun s=>(q,cb T x s)).toList++((de T b x n false).map fun s=>(r,cb T x s)).toList:=by
   unfold cx
   show ([(q,(de T b x n true).map (cb T x)),(r,(de T b x n false).map (cb T x))].filterMap fun p=>p.2.map fun U=>(p.1,U))=_
   cases de T b x n true <;> cases de T b x n false <;> rfl
  rw [e]
  cases e1:de T b x n true with
  | none=>cases e2:de T b x n false with
   | none=>exact (BK (h.le x) e1 e2).elim
   | some s=>exact⟨.inl rfl,by show 1<=2;decide⟩
  | some s=>cases e2:de T b x n false with
   | none=>exact⟨.inl rfl,by show 1<=2;decide⟩
   | some s=>exact⟨.inr rfl,Ij 2⟩
theorem cM.lay {xs:List Str}{T:Str->Sx}(h:cM xs T)(hx:∀x∈xs,eG x):pX T:=fun x hx'=>Cj (hx x (h.sup x hx'))
theorem cM.bS {xs:List Str}{T:Str->Sx}(h:cM xs T):jX T xs.length:=fun ss hs nd=>sub_len nd fun x hx=>h.sup x (hs x hx)
open Classical in
noncomputable def nP (c:Cp):Bool:=decide (c.2≠T0)
theorem uk {α : Type}(p:α->Bool):∀l:List α,l.length=(l.filter p).length+(l.filter fun x=>!p x).length
 | []=>rfl
 | x::l=>by
  have ih:=uk p l
  cases h:p x with
  | true=>rw [Kw h,Kb (by simp [h]),I0,I0];omega
  | false=>rw [Kb (by simp [h]),Kw (by simp [h]),I0,I0];omega
structure jY (n most:Nat) (cs:List Cp):Prop where
 nd:cs.Nodup
 bS:(cs.filter nP).length<=most
theorem jY.len {n most:Nat}{cs:List Cp}(h:jY n most cs)(hl:∀c∈cs,c.1<n):cs.length<=most+n:=by
 have e:=uk nP cs
 have h2:(cs.filter fun c=>!nP c).length<=n:=by
  have nd2:((cs.filter fun c=>!nP c).map (·.1)).Nodup:=by
   rw [List.Nodup,List.pairwise_map]
   refine (h.nd.filter _).imp_of_mem fun {a b} ha hb hne z=>hne ?_
   have ha2:=(Jf.mp ha).2
   have hb2:=(Jf.mp hb).2
   simp [nP] at ha2 hb2
   exact Prod.ext z (by rw [ha2,hb2])
  have:=hJ (n:=n) nd2 fun x hx=>by
   obtain⟨c,hc,rfl⟩:=Iv.mp hx
   exact hl c (Jf.mp hc).1
  rw [Ig] at this
  exact this
 have:=h.bS
 omega
theorem jY.put {n most:Nat}{tops:Nat->Prop}{cs:List Cp}{l:Cp}(h:jY n most cs):jY n most (LS.putIn cs (bL tops most cs l)):=by
 unfold LS.putIn
 by_cases hm:bL tops most cs l∈cs
 ·rw [if_pos hm];exact h
 ·rw [if_neg hm]
  refine⟨?_,?_⟩
  ·rw [JL]
   refine⟨h.nd,by simp,fun x hx y hy z=>?_⟩
   rw [Il.mp hy] at z
   exact hm (z ▸ hx)
  ·rw [Jv,Io]
   by_cases hz:(bL tops most cs l).2=T0
   ·rw [Kb (by simp [nP,hz])]
    simpa using h.bS
   ·have hlt:cs.length<most:=by
     unfold bL at hz hm
     split at hz
     ·exact absurd rfl hz
     ·split at hz
      ·next h1 h2 =>
       rw [if_neg h1,if_pos h2] at hm
       exact h2.resolve_left hm
      ·exact absurd rfl hz
    have h3:(cs.filter nP).length<=cs.length:=Jr _ _
    have h4:(List.filter nP [bL tops most cs l]).length<=1:=Jr _ _
    omega
open Classical in
noncomputable def startT (ps:List Piece):Str->Sx:=fun x=>if x∈bA ps then (some 0,some 0) else cO
open Classical in
noncomputable def iA (ps:List Piece):Cp:=if df ps 0 then (0,T0) else (0,startT ps)
noncomputable def dt (ps:List Piece) (most:Nat):List Cp×List Piece:=gB (df ps) most ps (most+ps.length) [iA ps] []
theorem Cq {ps:List Piece}{ss:List Str}(hp:ss.Perm (LS.cQ (bA ps)))(hs:sortedS ss=true):FD (startT ps) (nI ss):=by
 have hm:∀x,x∈ss↔x∈bA ps:=fun x=>hp.mem_iff.trans LS.kj
 refine⟨ss,⟨tZ hs,hp.nodup_iff.mpr (LS.pS _)⟩,fun x=>?_,?_⟩
 ·rw [hm]
  unfold startT
  by_cases h:x∈bA ps
  ·rw [if_pos h];exact⟨fun _ z=>(by cases z),fun _=>h⟩
  ·rw [if_neg h];exact⟨fun z=>absurd z h,fun z=>absurd rfl z⟩
 ·unfold nI fZ
  congr 1
  refine Kt fun x hx=>?_
  unfold dF startT
  rw [if_pos ((hm x).mp hx)]
  rfl
theorem p9 {ps:List Piece}{xs:List Str}{m:Nat}(ok:cI xs m ps):cM xs (startT ps):=by
 refine⟨fun x hx=>?_,fun x=>?_⟩
 ·unfold startT at hx
  by_cases h:x∈bA ps
  ·exact km ok x h
  ·rw [if_neg h] at hx;exact absurd rfl hx
 ·unfold startT
  split
  ·exact Int.le_refl 0
  ·exact True.intro
theorem rF {tops:Nat->Prop}{most:Nat}{ps:List Piece}{f:Nat}{cs:List Cp}{outs:List Piece}{c:Cp}{pc:Piece}(h:cs[outs.length]?=some c)(hp:ps[c.1]?=some pc) :
  gB tops most ps (f+1) cs outs=gB tops most ps f (cE tops most cs (cx (bp c.2 pc.1) pc.2)).1 (outs++[(pc.1,gG pc.2 (cE tops most cs (cx (bp c.2 pc.1) pc.2)).2)]):=by
 conv=>lhs;unfold gB
 rw [h]
 dsimp only
 rw [hp]
theorem um {tops:Nat->Prop}{most:Nat}{ps:List Piece}{cs:List Cp}{outs:List Piece}(h:cs[outs.length]?=none):∀f,gB tops most ps f cs outs=(cs,outs)
 | 0=>rfl
 | f+1=>by
  conv=>lhs;unfold gB
  rw [h]
theorem sQ {X:Cx}{K:Ih}{e:Expr}{f:Str}{pos:Pos}{ta:TE}(hK:X.K=K)(he:PE X e ta)(hb:attributeBase e f X.env (eval e X.env)=eval e X.env):PE X (.Attribute e f pos) (EY K ta f):=by
 subst hK
 exact dB he hb
theorem jc {tops:Nat->Prop}{most n:Nat}{xs:List Str}:∀{ls cs:List Cp} {ns:List Nat},jY n most cs->(∀c∈cs,c.1<n/\cM xs c.2)->(∀c∈ls,c.1<n/\cM xs c.2)->jY n most (ls.foldl (fK tops most) (cs,ns)).1/\(∀c∈(ls.foldl (fK tops most) (cs,ns)).1,c.1<n/\cM xs c.2)/\(ls.foldl (fK tops most) (cs,ns)).2.length=ns.length+ls.length/\∃more,(ls.foldl (fK tops most) (cs,ns)).1=cs++more
 | [],cs,ns,h,hc,_=>⟨h,hc,rfl,[],by simp⟩
 | l::ls,cs,ns,h,hc,hl=>by
  have hl0:=hl l (Iy ..)
  have hcp:(bL tops most cs l).1<n/\cM xs (bL tops most cs l).2:=by
   unfold bL
   split
   ·exact⟨hl0.1,cM.zero⟩
   ·split
    ·exact hl0
    ·exact⟨hl0.1,cM.zero⟩
  have hc':∀c∈LS.putIn cs (bL tops most cs l),c.1<n/\cM xs c.2:=fun c hc'=>by
   rcases LS.ja.mp hc' with z | z
   ·exact hc c z
   ·rw [z];exact hcp
  obtain⟨i1,i2,i3,more,i4⟩:=jc (tops:=tops) (ls:=ls) (cs:=LS.putIn cs (bL tops most cs l)) (ns:=ns++[(LS.putIn cs (bL tops most cs l)).idxOf (bL tops most cs l)]) (h.put (l:=l)) hc' fun c hc=>hl c (Iz _ hc)
  refine⟨i1,i2,?_,?_⟩
  ·refine Eq.trans (show (ls.foldl (fK tops most) (fK tops most (cs,ns) l)).2.length=(ns++[(LS.putIn cs (bL tops most cs l)).idxOf (bL tops most cs l)]).length+ls.length from i3) ?_
   simp only [Io,I0,Kq]
   omega
  ·have i4':(ls.foldl (fK tops most) (fK tops most (cs,ns) l)).1=LS.putIn cs (bL tops most cs l)++more:=i4
   show ∃more,(ls.foldl (fK tops most) (fK tops most (cs,ns) l)).1=cs++more
   rw [i4']
   unfold LS.putIn
   split
   ·exact⟨more,rfl⟩
   ·exact⟨bL tops most cs l::more,by simp⟩
theorem ij.mv {P:Program}{w:World}{C r m d:Addr}{H H':Hp}{ms:List (PyData×Addr)}(A:ij P w C H r m d ms)(nls:∀p∈ms,b0 p.1=true)(k:∀c o,H c=some o->(c=r\/c=m\/c=d)->H' c=some o)(kt:∀p zs,H p=some (.tup zs)->H' p=some (.tup zs)):ij P w C H' r m d ms:=by
 obtain⟨⟨dx,h1⟩,h2,h3,h4⟩:=A
 exact⟨⟨dx,k _ _ h1 (.inl rfl)⟩,k _ _ h2 (.inr (.inl rfl)),k _ _ h3 (.inr (.inr rfl)),fun p hp=>⟨(h4 p hp).1,(h4 p hp).2.av kt (nls p hp)⟩⟩
theorem o9.kq {ms:List (PyData×Addr)}{cs:List Cp}(h:o9 ms cs):∀p∈ms,b0 p.1=true:=by
 have go:∀{ds:List PyData} {cs:List Cp},Paired (fun d c=>CD c d) ds cs->∀d∈ds,b0 d=true:=by
  intro ds cs h
  induction h with
  | nil=>intro d hd;cases hd
  | cons r _ ih =>
   intro d hd
   rcases Ii.mp hd with rfl | hd
   ·exact r.kq
   ·exact ih d hd
 exact fun p hp=>go h p.1 (Iv.mpr ⟨p,hp,rfl⟩)
theorem o9.put {ms:List (PyData×Addr)}{cs:List Cp}{c:Cp}{d:PyData}{a:Addr}(h:o9 ms cs)(cd:CD c d):o9 (mh ms d a) (LS.putIn cs c):=by
 obtain⟨hm,_⟩:=cd.mem h
 unfold mh LS.putIn
 by_cases z:c∈cs
 ·rw [if_pos z,if_pos (hm.mpr z)];exact h
 ·rw [if_neg z,if_neg (fun w=>z (hm.mp w))]
  show Paired _ ((ms++[(d,a)]).map (·.1)) _
  rw [Iw]
  exact dE h (.cons cd .nil)
theorem yc {H:Hp}:∀{ms:List (PyData×Addr)},(∀p∈ms,aL H (.ref p.2) p.1)->aR H (ms.map fun p=>V.ref p.2) (ms.map (·.1))
 | [],_=>.nil
 | p::ms,h=>.cons (h p (Iy ..)) (yc fun q hq=>h q (Iz _ hq))
section
variable {prog:Program}{w:World}{A:Around}{E:Value->Shared->Prop}{s:Shared}
end
section
variable {X:Cx}
end
open Classical in
noncomputable def qc (T:Str->Sx) (ss:List Str):Str->Sx:=fun x=>if x∈ss then T x else cO
theorem Cr {T:Str->Sx}{ss:List Str}{x:Str}:cb (qc T ss) x (T x)=qc T (ss++[x]):=by
 funext y
 unfold cb qc
 by_cases e:y=x
 ·rw [if_pos e,if_pos (by rw [e];exact IV _ (Il.mpr rfl)),e]
 ·rw [if_neg e]
  by_cases h:y∈ss
  ·rw [if_pos h,if_pos (Jh _ h)]
  ·rw [if_neg h,if_neg (fun z=>(IC.mp z).elim h fun w=>e (Il.mp w))]
theorem Cs {T:Str->Sx}{ss:List Str}(h:∀x,x∈ss↔T x≠cO):qc T ss=T:=by
 funext x
 unfold qc
 by_cases z:x∈ss
 ·rw [if_pos z]
 ·rw [if_neg z]
  exact (Classical.byContradiction fun w=>z ((h x).mpr fun e=>w e.symm))
theorem wb {H:Hp}{v:V}{o:Option Int}(h:aL H v (dO o)):v=vO o:=by
 cases o with
 | none=>cases h;rfl
 | some i=>cases h;rfl
theorem Ct {H:Hp}{v:V}{s:Sx}(h:aL H v (dS s)):SH H v s:=by
 obtain⟨p,zs,rfl,hp,r⟩:=aL.bF h
 obtain⟨y1,t1,rfl,q1,r⟩:=r.cons_inv
 obtain⟨y2,t2,rfl,q2,r⟩:=r.cons_inv
 have z:=r.nil_inv
 subst z
 rw [wb q1,wb q2] at hp
 exact⟨p,rfl,hp⟩
theorem yd {ds:List PyData}{cs:List Cp}(h:Paired (fun d c=>CD c d) ds cs)(hl:∀c∈cs,pX c.2):∀e∈ds,jV e:=by
 induction h with
 | nil=>intro e he;cases he
 | cons r _ ih =>
  intro e he
  rcases Ii.mp he with rfl | he
  ·exact r.key (hl _ (Iy ..))
  ·exact ih (fun c hc=>hl c (Iz _ hc)) e he
section
variable {tops:Nat->Prop}{most:Nat}
def Goes (tops:Nat->Prop)(most:Nat)(cs:List Cp)(ls:List Cp)(ns:List Nat):Prop:=Paired (fun l k=>∃c':Cp,cs[k]?=some c'/\c'.1=l.1/\((¬tops l.1/\c'.2=l.2)\/(c'.2=T0/\(tops l.1\/most<=cs.length)))) ls ns
theorem Goes.more {cs ls more:List Cp}{ns:List Nat}(h:Goes tops most cs ls ns):Goes tops most (cs++more) ls ns:=by
 unfold Goes at h ⊢
 induction h with
 | nil=>exact .nil
 | cons r _ ih =>
  obtain⟨c',h1,h2,h3⟩:=r
  refine .cons ⟨c',?_,h2,?_⟩ ih
  ·rw [JG (IE.mp h1).1];exact h1
  ·rcases h3 with h3 | ⟨h3,h4 | h4⟩
   ·exact .inl h3
   ·exact .inr ⟨h3,.inl h4⟩
   ·exact .inr ⟨h3,.inr (by rw [Io];omega)⟩
theorem Cu {cs:List Cp}{c:Cp}:(LS.putIn cs c)[(LS.putIn cs c).idxOf c]?=some c:=by
 have hm:c∈LS.putIn cs c:=LS.ja.mpr (.inr rfl)
 have hl:=List.idxOf_lt_length_of_mem hm
 rw [KO hl,List.getElem_idxOf hl]
theorem ph:∀{ls cs:List Cp} {ns:List Nat},∃more ms,(ls.foldl (fK tops most) (cs,ns)).1=cs++more/\(ls.foldl (fK tops most) (cs,ns)).2=ns++ms/\Goes tops most (ls.foldl (fK tops most) (cs,ns)).1 ls ms
 | [],cs,ns=>⟨[],[],by simp,by simp,.nil⟩
 | l::ls,cs,ns=>by
  obtain⟨more,ms,e1,e2,g⟩:=ph (ls:=ls) (cs:=LS.putIn cs (bL tops most cs l)) (ns:=ns++[(LS.putIn cs (bL tops most cs l)).idxOf (bL tops most cs l)])
  have e0:(l::ls).foldl (fK tops most) (cs,ns)=ls.foldl (fK tops most) (LS.putIn cs (bL tops most cs l),ns++[(LS.putIn cs (bL tops most cs l)).idxOf (bL tops most cs l)]):=rfl
  rw [e0]
  have hp:∃m0,LS.putIn cs (bL tops most cs l)=cs++m0:=by
   unfold LS.putIn
   split
   ·exact⟨[],by simp⟩
   ·exact⟨_,rfl⟩
  obtain⟨m0,em⟩:=hp
  have hat:=Cu (cs:=cs) (c:=bL tops most cs l)
  refine⟨m0++more,(LS.putIn cs (bL tops most cs l)).idxOf (bL tops most cs l)::ms,by rw [e1,em,Jc],by rw [e2,Jc];rfl,.cons ⟨bL tops most cs l,?_,?_,?_⟩ g⟩
  ·rw [e1,JG (IE.mp hat).1];exact hat
  ·unfold bL
   split
   ·rfl
   ·split <;> rfl
  ·have hl:cs.length<=(ls.foldl (fK tops most) (LS.putIn cs (bL tops most cs l),ns++[(LS.putIn cs (bL tops most cs l)).idxOf (bL tops most cs l)])).1.length:=by rw [e1,em,Io,Io];omega
   generalize (ls.foldl (fK tops most) (LS.putIn cs (bL tops most cs l),ns++[(LS.putIn cs (bL tops most cs l)).idxOf (bL tops most cs l)])).1=cz at hl
   unfold bL
   by_cases h1:tops l.1
   ·rw [if_pos h1];exact .inr ⟨rfl,.inl h1⟩
   ·rw [if_neg h1]
    by_cases h2:l∈cs\/cs.length<most
    ·rw [if_pos h2];exact .inl ⟨h1,rfl⟩
    ·rw [if_neg h2];exact .inr ⟨rfl,.inr (by have:¬cs.length<most:=fun z=>h2 (.inr z);omega)⟩
def HD (tops:Nat->Prop)(most:Nat)(ps:List Piece)(cs:List Cp)(outs:List Piece):Prop:=∀(j:Nat) (p:Piece),outs[j]?=some p->∃(c:Cp) (pc:Piece) (ns:List Nat),cs[j]?=some c/\ps[c.1]?=some pc/\p=(pc.1,gG pc.2 ns)/\Goes tops most cs (cx (bp c.2 pc.1) pc.2) ns
structure sR (tops:Nat->Prop) (most:Nat) (xs:List Str) (ps:List Piece) (cs:List Cp) (outs:List Piece):Prop where
 pA:jY ps.length most cs
 ok:∀c∈cs,c.1<ps.length/\cM xs c.2
 le:outs.length<=cs.length
 rel:HD tops most ps cs outs
theorem sR.step {xs:List Str}{ps:List Piece}{cs:List Cp}{outs:List Piece}{m:Nat}(h:sR tops most xs ps cs outs)(bY:cI xs m ps){c:Cp}{pc:Piece}(hc:cs[outs.length]?=some c)(hp:ps[c.1]?=some pc) :
  sR tops most xs ps (cE tops most cs (cx (bp c.2 pc.1) pc.2)).1 (outs++[(pc.1,gG pc.2 (cE tops most cs (cx (bp c.2 pc.1) pc.2)).2)])/\∃more,(cE tops most cs (cx (bp c.2 pc.1) pc.2)).1=cs++more:=by
 have hcm:=IB hc
 have dok:=bY.fe _ (IB hp)
 have eok:=bY.ends _ (IB hp)
 have bok:=(h.ok c hcm).2.p8 dok.2
 obtain⟨k1,k2,_,_⟩:=jc (tops:=tops) (ls:=cx (bp c.2 pc.1) pc.2) (ns:=[]) h.pA h.ok (yb bok eok)
 obtain⟨more,ms,e1,e2,g⟩:=ph (tops:=tops) (most:=most) (ls:=cx (bp c.2 pc.1) pc.2) (cs:=cs) (ns:=[])
 have hol:outs.length<cs.length:=(IE.mp hc).1
 refine⟨⟨k1,k2,?_,?_⟩,more,e1⟩
 ·unfold cE
  rw [e1,Io,Io]
  show _+1<=_
  omega
 ·intro j p hj
  unfold cE
  by_cases hjl:j<outs.length
  ·rw [JG hjl] at hj
   obtain⟨c',pc',ns',h1,h2,h3,h4⟩:=h.rel j p hj
   refine⟨c',pc',ns',?_,h2,h3,?_⟩
   ·rw [e1,JG (by omega)];exact h1
   ·rw [e1];exact h4.more
  ·have hje:j=outs.length:=by
    have:=(IE.mp hj).1
    rw [Io] at this
    have:j<outs.length+1:=this
    omega
   subst hje
   rw [Kh (Ij _),Nat.sub_self] at hj
   cases hj
   refine⟨c,pc,ms,?_,hp,?_,g⟩
   ·rw [e1,JG hol];exact hc
   ·unfold cE
    rw [e2]
    rfl
theorem uo {xs:List Str}{ps:List Piece}{m:Nat}(bY:cI xs m ps):∀(fu:Nat) {cs:List Cp} {outs:List Piece},sR tops most xs ps cs outs->fu+outs.length=most+ps.length ->
  sR tops most xs ps (gB tops most ps fu cs outs).1 (gB tops most ps fu cs outs).2/\(gB tops most ps fu cs outs).2.length=(gB tops most ps fu cs outs).1.length/\∃more,(gB tops most ps fu cs outs).1=cs++more
 | 0,cs,outs,h,hf=>by
  have:=h.pA.len fun c hc=>(h.ok c hc).1
  have:=h.le
  exact⟨h,by show outs.length=cs.length;omega,[],by show cs=_;simp⟩
 | fu+1,cs,outs,h,hf=>by
  cases hc:cs[outs.length]? with
  | none =>
   rw [um hc]
   have:cs.length<=outs.length:=List.getElem?_eq_none_iff.mp hc
   have:=h.le
   exact⟨h,by show outs.length=cs.length;omega,[],by simp⟩
  | some c =>
   have hcl:=(h.ok c (IB hc)).1
   have hps:ps[c.1]?=some ps[c.1]:=by simp [hcl]
   rw [rF hc hps]
   obtain⟨h',more,e⟩:=h.step bY hc hps
   obtain⟨i1,i2,more',i3⟩:=uo bY fu h' (by rw [Io];show fu+(_+1)=_;omega)
   exact⟨i1,i2,more++more',by rw [i3,e,Jc]⟩
end
theorem jZ {xs:List Str}{ps:List Piece}{m most:Nat}(bY:cI xs m ps)(hn0:0<ps.length)(hm:1<=most) :
  sR (df ps) most xs ps (dt ps most).1 (dt ps most).2/\(dt ps most).2.length=(dt ps most).1.length/\∃more,(dt ps most).1=[iA ps]++more:=by
 refine uo bY _ ⟨⟨by simp,Ir (Jr _ _) hm⟩,fun c hc=>?_,IF _,fun j p hj=>(by cases hj)⟩ rfl
 rw [Il.mp hc]
 unfold iA
 split
 ·exact⟨hn0,cM.zero⟩
 ·exact⟨hn0,p9 bY⟩
theorem Eo {xs:List Str}{n n':Nat}{e:End}{ns:List Nat}(h:gx xs n e)(hl:ns.length=1\/ns.length=(bH e).length)(hb:∀k∈ns,k<n'):gx xs n' (gG e ns):=by
 match ns,hl,hb with
 | [a],_,hb=>exact hb a (Il.mpr rfl)
 | [],hl,_ =>
  cases e with
  | stop=>exact True.intro
  | go p=>exact absurd (hl.resolve_left (by decide)) (by show ¬0=1;decide)
  | cm b x n p q=>exact absurd (hl.resolve_left (by decide)) (by show ¬0=2;decide)
 | [a,c],hl,hb =>
  have hl:=hl.resolve_left (by show ¬2=1;decide)
  cases e with
  | stop=>exact absurd hl (by show ¬2=0;decide)
  | go p=>exact absurd hl (by show ¬2=1;decide)
  | cm b x n p q=>exact⟨h.1,h.2.1,hb a (by simp),hb c (by simp)⟩
 | _::_::_::_,hl,_ =>
  exfalso
  have h3:(bH e).length<=2:=by cases e <;> (show _<=2) <;> simp [bH]
  simp only [I0] at hl
  omega
theorem Goes.lt {tops:Nat->Prop}{most:Nat}{cs ls:List Cp}{ns:List Nat}(h:Goes tops most cs ls ns):∀k∈ns,k<cs.length:=by
 unfold Goes at h
 induction h with
 | nil=>intro k hk;cases hk
 | cons r _ ih =>
  intro k hk
  rcases Ii.mp hk with rfl | hk
  ·obtain⟨c',h1,_⟩:=r
   exact (IE.mp h1).1
  ·exact ih k hk
theorem uq {xs:List Str}{ps:List Piece}{m most:Nat}(bY:cI xs m ps)(hn0:0<ps.length)(hm:1<=most):cI xs m (dt ps most).2:=by
 obtain⟨I,hl,_⟩:=jZ bY hn0 hm
 have key:∀p∈(dt ps most).2,(p.1.length<=m/\∀d∈p.1,cL xs d)/\gx xs (dt ps most).2.length p.2:=fun p hp=>by
  obtain⟨j,hj⟩:=Kc hp
  obtain⟨c,pc,ns,h1,h2,rfl,h4⟩:=I.rel j p hj
  have hpm:=IB h2
  have bok:=(I.ok c (IB h1)).2.p8 (bY.fe _ hpm).2
  refine⟨(show pc.1.length<=m/\∀d∈pc.1,cL xs d from bY.fe pc hpm),Eo (bY.ends _ hpm) ?_ (by rw [hl];exact h4.lt)⟩
  rw [<-Paired.length h4]
  exact (iO (e:=pc.2) bok).1
 exact⟨fun p hp=>(key p hp).1,fun p hp=>(key p hp).2⟩
theorem ur {xs:List Str}{ps:List Piece}{m most:Nat}(bY:cI xs m ps)(hn0:0<ps.length)(hm:1<=most):0<(dt ps most).2.length/\(dt ps most).2.length<=most+ps.length:=by
 obtain⟨I,hl,more,e⟩:=jZ bY hn0 hm
 have h1:=I.pA.len fun c hc=>(I.ok c hc).1
 rw [hl]
 refine⟨?_,h1⟩
 rw [e]
 exact Nat.succ_pos _
theorem sS {ds ds':List PyData}{cs:List Cp}(h:Paired (fun d c=>CD c d) ds cs)(h':Paired (fun d c=>CD c d) ds' cs):ds=ds':=by
 induction h generalizing ds' with
 | nil=>cases h';rfl
 | cons r _ ih =>
  cases h' with
  | cons r' t'=>rw [ih t',(r.iff r').mpr rfl]
theorem Ep {ds:List PyData}{cs:List Cp}(h:Paired (fun d c=>CD c d) ds cs)(hl:∀c∈cs,pX c.2):(∀d∈ds,d.canLay0=true)/\∀d∈ds,d.depth<=7 :=
 ⟨fun d hd=>(yd h hl d hd).lay,fun d hd=>(yd h hl d hd).dep⟩
theorem cI.up {xs:List Str}{m k:Nat}{ps:List Piece}(h:cI xs m ps)(hk:m<=k):cI xs k ps:=⟨fun p hp=>⟨Ir (h.fe p hp).1 hk,(h.fe p hp).2⟩,h.ends⟩
section
variable {X:Cx}
end
theorem zg {w:Str->Int}:Sound T0 w:=fun x=>rfl
theorem Cv {T:Str->Sx}{b:Bool}{x:Str}{n:Int}{q r:Nat}:cx T (.cm b x n q r)=((de T b x n true).map fun s=>(q,cb T x s)).toList++((de T b x n false).map fun s=>(r,cb T x s)).toList:=by
 unfold cx
 show ([(q,(de T b x n true).map (cb T x)),(r,(de T b x n false).map (cb T x))].filterMap fun p=>p.2.map fun U=>(p.1,U))=_
 cases de T b x n true <;> cases de T b x n false <;> rfl
theorem sT {H:Hp}:∀ns:List Nat,aR H (ns.map fun k=>V.int (k:Nat)) (ns.map fun k=>PyData.int (k:Nat))
 | []=>.nil
 | n::ns=>.cons (.int n) (sT ns)
section
variable {X:Cx}{pos:Pos}
end
section
variable {X:Cx}
end
section
variable {X:Cx}
end
theorem fL {α β : Type}{F:α->β->Prop}:∀{l:List α} {m:List β},Paired F l m->∀{i:Nat} {y:β},m[i]?=some y->∃x,l[i]?=some x/\F x y
 | _,_,.nil,i,y,h=>by simp at h
 | _,_,.cons f t,0,y,h=>by cases h;exact⟨_,rfl,f⟩
 | _,_,.cons f t,i+1,y,h=>fL t h
theorem cG {α β : Type}{F:α->β->Prop}:∀{l:List α} {m:List β},Paired F l m->l.length=m.length
 | _,_,.nil=>rfl
 | _,_,.cons f t=>congrArg (· + 1) (cG t)
inductive nQ  (vs:List V) (H:Hp) (Q:VK) (_:XK):Prop
 | mk (fv:V) (p:Addr) (ws:List V) (ds:List cN) (T:Str->Sx) (xs:List Str) (_:vs=[fv,.ref p]) (_:FV H fv T) (_:H p=some (.tup ws)) (_:aR H ws (ds.map cn)) (_:cM xs T) (_:(∀d∈ds,cL xs d)) (_:xs.length<64) (_:∀v H',FV H' v (bp T ds)->ae H H'->Q v H')
theorem ye {n i:Nat}(h:i<n):m5 n (i:Int)=some i:=by
 unfold m5
 simp
 omega
section
variable {X:Cx}
end
section
variable {X:Cx}
end
inductive rG  (vs:List V) (H:Hp) (Q:VK) (_:XK):Prop
 | mk (fv:V) (T:Str->Sx) (m:Nat) (_:vs=[fv]) (_:FV H fv T) (_:jX T m) (_:m<=60) (_:∀d' H',H d' = none->LT H' d' T m->ae H H'->Q (.ref d') H')
theorem FO {c:Bool}{A B C:Prop}(hz:C)(hx:C->c=true->A):if c=true then A else (if false=true then B else C):=by
 cases c
 ·exact hz
 ·exact hx hz rfl
theorem cI.HW {xs:List Str}{m:Nat}{ps:List Piece}(h:cI xs m ps)(ys:List Str):cI (xs++ys) m ps:=by
 have l:∀{x},x∈xs->x∈xs++ys:=fun h=>Jh _ h
 refine⟨fun p hp=>⟨(h.fe p hp).1,fun d hd=>?_⟩,fun p hp=>?_⟩
 ·have:=(h.fe p hp).2 d hd
  cases d with
  | put x n=>exact⟨l this.1,this.2⟩
  | copy x y=>exact⟨l this.1,l this.2⟩
  | add x n=>exact⟨l this.1,this.2⟩
  | read x=>exact l this
  | tell x=>exact l this
 ·have:=h.ends p hp
  obtain⟨ds,e⟩:=p
  cases e with
  | stop=>exact True.intro
  | go q=>exact this
  | cm b x n q r=>exact⟨l this.1,this.2⟩
section
variable {prog:Program}{w:World}{A:Around}{E:Value->Shared->Prop}{s:Shared}
theorem uv (hh:A.handled=none)(it l:Addr)(hne:l≠it)(its:Array Value):Draws prog w A it [it,l] its.size (fun i v=>its[i]?=some v) (fun i h=>h.IsTupleIter it l i/\h.IsTuple l its) where
 live:=fun _ _ st=>let ⟨o,ho,_⟩:=st.1;⟨o,ho⟩
 frame:=fun _ _ _ st hk=>⟨st.1.at fun o e=>hk it (by simp) o e,gW st.2 fun o e=>hk l (by simp) o e⟩
 item:=fun i s Q E hi st hQ=>qI st.1 st.2 (x:=its[i]) (by simp [hi]) fun g gi sb=>hQ _ g s.toks (by simp [hi]) ⟨gi,gW st.2 fun o e=>sb.extBut _ _ hne e⟩ sb
 done:=fun s Q E st hE=>sy hh st.1 st.2 (by simp) hE
abbrev Di (h:Heap)(l:Addr):Heap:=h.push { cls:=.type "tuple_iterator",data:=.fields #[.ref l,.int 0 0] }
abbrev G0 (h:Heap)(l:Addr):Heap:=(Di h l).push { cls:=.type "enumerate",data:=.fields #[.none,.bool false,.ref h.objs.size,rawInt 0,.none,.none] }
theorem FP (l:Addr) (its:Array Value):Meets (Builtin.«enumerate.__new__» ⟨[.type "enumerate",.ref l],[]⟩) (fun _ R s=>s.heap.IsTuple l its/\R (.ok (.ret (.ref (Di s.heap l).objs.size))) { s with heap:=G0 s.heap l }) :=
 .of_wp fun P w' A' R' s' hh=>by
  obtain⟨hp,g,d,tk,os⟩:=s'
  obtain⟨gl,hh⟩:=hh
  have hsub:=sub_enumerate
  have la:Heap.IsTuple (Shared.heap ⟨hp,g,d,tk,os⟩) l its:=gl
  obtain⟨ol,el,cl,kl,dl⟩:=id gl
  wp_walk using AutoSeq1.wpAny_loadPart' el
  refine wpAny_stack_any fun st=>KU ?_
  split
  ·rename_i c _ _ _ _ _
   cases (c == Value.type "enumerate")
   ·wp_walk using AutoSeq1.wpAny_loadPart' el,La la
    exact⟨_,rfl,hh⟩
   ·wp_walk using AutoSeq1.wpAny_loadPart' el,La la
    exact⟨_,rfl,hh⟩
  ·wp_walk using AutoSeq1.wpAny_loadPart' el,La la
   exact⟨_,rfl,hh⟩
theorem Er {l:Addr}{its:Array Value}{Q:Value->Shared->Prop}(hL:s.heap.IsTuple l its)
  (h:∀g,IsEnum g (s.heap.objs.size+1) s.heap.objs.size 0 .none->g.IsTupleIter s.heap.objs.size l 0->(∀b o,s.heap.get? b=some o->g.get? b=some o)->Q (.ref (s.heap.objs.size+1)) { s with heap:=g }) :
  wpAny (model prog w) A (call (.type "enumerate") [.ref l]) Q E s:=by
 refine callType_new F.called_enumerate (by decide) (F.typeCall_enumerate_1 _) (F.newCall_enumerate_1 _) (fun obj=>F.args_object_init_2 obj _) F.entry_enumerate_new (FP l its) ⟨hL,?_⟩
 have hz:(Di s.heap l).objs.size=s.heap.objs.size+1:=IL ..
 have he:IsEnum (G0 s.heap l) (Di s.heap l).objs.size s.heap.objs.size 0 .none:=Ip _ rfl
 show _/\_
 rw [hz] at he ⊢
 exact⟨⟨_,he,rfl⟩,h _ he ⟨_,Im _ (Ip _ rfl),rfl,rfl⟩ fun b o x=>Im _ (Im _ x)⟩
end
def pB (Sq:Hp->Addr->List V->Prop)(a:Addr):It :=
 ⟨fun i H=>∃xs x,Sq H a xs/\xs[i]?=some x,
  fun i H v H'=>∃t x,v=.ref t/\H t=none/\H' = upd H t (.tup [.int (i:Nat),x])/\∀xs,Sq H a xs->xs[i]?=some x,
  fun i H=>∃xs,Sq H a xs/\xs.length=i⟩
section
variable {X:Cx}{pins:List (Addr×Obj)}{Ic : List (Option V)}{H:Hp}{s:Shared}
theorem yf {a e it:Addr}{n i:Nat}{x:V}{Pv:Nat->Value->Prop}{St:Nat->Heap->Prop}{E:Value->Shared->Prop}{elts:List Expr}{kk:Nat}{pos:Pos}
  (D:Draws X.prog X.w X.A.in1 it [it,a] n Pv St) (I:Inv X pins Ic H s) (hf:∀b∈[e,it],hX X pins H b) (he:∃old,IsEnum s.heap e it i old) (hst:St i s.heap) (hlt:i<n) (hne:e≠it) (hea:e≠a) (hx:∀v,Pv i v->RelV x v) :
  wpAny (model X.prog X.w) X.A (pyNext (.ref e)) (fun r s1=>∃u,r=some u /\
   wpAny (model X.prog X.w) X.A (letOwnedTupleGo (.Tuple elts kk pos) (.ref e) u) (fun _ s2=>∃v H',Inv X pins Ic H' s2/\RelV v u/\(∃t,v=.ref t/\H t=none/\H' = upd H t (.tup [.int (i:Nat),x]))/\((∃old,IsEnum s2.heap e it (i+1:Nat) old)/\St (i+1) s2.heap)/\∀b∈[e,it],H' b=none) E s1) E s:=by
 obtain⟨old,he⟩:=he
 have lite:it<s.heap.objs.size:=by obtain⟨_,y⟩:=D.live _ _ hst;exact Ik y
 have lee:e<s.heap.objs.size:=Ik he
 have sz:∀c∈[e,it],c≠s.heap.objs.size:=fun c hc z=>by
  subst z
  simp only [Ii,IY,or_false] at hc
  rcases hc with z | z
  ·rw [<-z] at lee;exact absurd lee (IJ _)
  ·rw [<-z] at lite;exact absurd lite (IJ _)
 refine wpAny_pyNext_enum_itemD D he hst hlt hne (by simp only [Ii,IY,or_false,not_or];exact⟨hne,hea⟩) fun xv h' tk px ho hs' hT hsz hk=>?_
 refine⟨.ref s.heap.objs.size,rfl,wpAny_letOwnedTupleGo_enum ho fun g' ge sb=>?_⟩
 have fr:=I.aW.fresh (a:=s.heap.objs.size) (Ij _)
 have I1:Inv X pins Ic (upd H s.heap.objs.size (.tup [.int (i:Nat),x])) { s with heap:=s.heap.push { cls:=.type "tuple",data:=.seq #[.int i tk,xv] },toks:=tk+1 } :=
  I.laid (fun _ _ e=>Im _ e) (Ij _) ⟨by show 2<=sizeLine;decide,[.int i tk,xv],.cons ⟨tk,rfl⟩ (.cons (hx xv px) .nil),by first | exact IsTup.new _ _ | exact⟨_,Ip _ rfl,rfl,_,rfl,rfl⟩⟩
 have f1:∀c∈[e,it],hX X pins (upd H s.heap.objs.size (.tup [.int (i:Nat),x])) c:=fun c hc=>by
  obtain⟨f0,fr'⟩:=hf c hc
  exact⟨by rw [ao (sz c hc)];exact f0,fr'⟩
 have I2:Inv X pins Ic (upd H s.heap.objs.size (.tup [.int (i:Nat),x])) { s with heap:=g',toks:=tk+1 }:=Inv.iH (s:={ s with heap:=s.heap.push { cls:=.type "tuple",data:=.seq #[.int i tk,xv] },toks:=tk+1 }) (fp:=[e,it]) (h':=g') (t':=tk+1) I1 (fun c o hc q=>by
  simp only [Ii,IY,or_false,not_or] at hc
  refine sb.extBut _ _ hc.1 ?_
  rcases KL q with ⟨rfl,rfl⟩ | q
  ·exact hT
  ·exact hk c o hc.1 hc.2 q) f1
 refine⟨.ref s.heap.objs.size,_,I2,rfl,⟨_,rfl,fr,rfl⟩,⟨⟨xv,by simpa using ge⟩,D.frame _ _ _ hs' fun b hb o q=>(sb.2 b fun z=>?_).trans q⟩,fun c hc=>(f1 c hc).1⟩
 subst z
 simp only [Ii,IY,or_false] at hb
 exact hb.elim hne hea
theorem zh {P:Program}{w:World}{K:Ih}{elts:List Expr}{kk:Nat}{pos:Pos}(a e it:Addr)(hne:e≠it)(hea:e≠a)(hia:a≠it) :
  Turn P w K (.Tuple elts kk pos) (pB (ar K) a) [e,it] e (fun i h=>(∃old,IsEnum h e it (i:Nat) old)/\h.IsTupleIter it a i) where
 mem:=by simp
 obj:=fun i h st c hc=>by
  obtain⟨⟨old,ge⟩,⟨oj,ej,cj,dj⟩⟩:=st
  simp only [Ii,IY,or_false] at hc
  rcases hc with rfl | rfl
  ·exact⟨_,ge,fun v e=>by cases e⟩
  ·exact⟨oj,ej,fun v e=>by rw [dj] at e;cases e⟩
 keep:=fun i h g st kp=>by
  obtain⟨⟨old,ge⟩,⟨oj,ej,rj⟩⟩:=st
  exact⟨⟨old,kp e (by simp) _ ge⟩,⟨oj,kp it (by simp) _ ej,rj⟩⟩
 item:=by
  intro X hP hw hK hc i pins s Ic H E I hf st hg
  subst hP hw hK
  obtain⟨xs,x,ha,hx⟩:=hg
  obtain⟨is,ra,pa,_⟩:=I.tuple ha
  have la:=ra.length
  have hil:i<is.toArray.size:=by have:=(IE.mp hx).1;simp;omega
  refine KW (yf (elts:=elts) (kk:=kk) (pos:=pos) (uv (A:=X.A.in1) (I.ok.hd hc) it a hia is.toArray) I hf st.1 ⟨st.2,show s.heap.IsTuple a is.toArray from pa⟩ hil hne hea (x:=x) (fun v hv=>?_)) (fun r s1 hr=>?_) fun _ _ z=>z
  ·obtain⟨u,hu,ru⟩:=ra.get hx
   have:is[i]?=some v:=by simpa using hv
   rw [hu] at this
   cases this
   exact ru
  ·obtain⟨u,e1,hgo⟩:=hr
   refine⟨u,e1,KW hgo (fun _ s2 ⟨v,H',I',rv,⟨t,e2,ht,e3⟩,⟨g1,g2⟩,g3⟩=>⟨v,H',I',rv,⟨t,x,e2,ht,e3,fun xs' h1=>by rw [I.ke h1 ha];exact hx⟩,⟨g1,g2.1⟩,g3⟩) fun _ _ z=>z⟩
 done:=by
  intro X hP hw hK hc i pins s Ic H E I hf st hg
  subst hP hw hK
  obtain⟨xs,ha,hl⟩:=hg
  obtain⟨is,ra,pa,_⟩:=I.tuple ha
  obtain⟨⟨old,ge⟩,gi⟩:=st
  have la:=ra.length
  have hsz:is.toArray.size=i:=by simp;omega
  refine wpAny_pyNext_enum_endD (uv (A:=X.A.in1) (I.ok.hd hc) it a hia is.toArray) ge ⟨by rw [hsz];exact gi,show s.heap.IsTuple a is.toArray from pa⟩ fun h' eb=>⟨rfl,I.iH (fp:=[e,it]) (t':=s.toks) (fun c o hc q=>?_) hf⟩
  simp only [Ii,IY,or_false,not_or] at hc
  exact eb c o hc.2 q
 self:=fun _ _ _ _ _ st h=>Lr st.1.choose_spec h
theorem zi {P:Program}{w:World}{K:Ih}{elts:List Expr}{kk:Nat}{pos:Pos}(a e it:Addr)(hne:e≠it)(hea:e≠a)(hia:a≠it) :
  Turn P w K (.Tuple elts kk pos) (pB (aN K) a) [e,it] e (fun i h=>(∃old,IsEnum h e it (i:Nat) old)/\h.IsListIter it a i) where
 mem:=by simp
 obj:=fun i h st c hc=>by
  obtain⟨⟨old,ge⟩,⟨oj,ej,cj,dj⟩⟩:=st
  simp only [Ii,IY,or_false] at hc
  rcases hc with rfl | rfl
  ·exact⟨_,ge,fun v e=>by cases e⟩
  ·exact⟨oj,ej,fun v e=>by rw [dj] at e;cases e⟩
 keep:=fun i h g st kp=>by
  obtain⟨⟨old,ge⟩,⟨oj,ej,rj⟩⟩:=st
  exact⟨⟨old,kp e (by simp) _ ge⟩,⟨oj,kp it (by simp) _ ej,rj⟩⟩
 item:=by
  intro X hP hw hK hc i pins s Ic H E I hf st hg
  subst hP hw hK
  obtain⟨xs,x,ha,hx⟩:=hg
  obtain⟨is,ra,pa,_⟩:=I.list ha
  have la:=ra.length
  have hil:i<is.toArray.size:=by have:=(IE.mp hx).1;simp;omega
  refine KW (yf (elts:=elts) (kk:=kk) (pos:=pos) (Draws.list (A:=X.A.in1) (I.ok.hd hc) it a hia is.toArray) I hf st.1 ⟨st.2,pa.isList⟩ hil hne hea (x:=x) (fun v hv=>?_)) (fun r s1 hr=>?_) fun _ _ z=>z
  ·obtain⟨u,hu,ru⟩:=ra.get hx
   have:is[i]?=some v:=by simpa using hv
   rw [hu] at this
   cases this
   exact ru
  ·obtain⟨u,e1,hgo⟩:=hr
   refine⟨u,e1,KW hgo (fun _ s2 ⟨v,H',I',rv,⟨t,e2,ht,e3⟩,⟨g1,g2⟩,g3⟩=>⟨v,H',I',rv,⟨t,x,e2,ht,e3,fun xs' h1=>by rw [I.lO h1 ha];exact hx⟩,⟨g1,g2.1⟩,g3⟩) fun _ _ z=>z⟩
 done:=by
  intro X hP hw hK hc i pins s Ic H E I hf st hg
  subst hP hw hK
  obtain⟨xs,ha,hl⟩:=hg
  obtain⟨is,ra,pa,_⟩:=I.list ha
  obtain⟨⟨old,ge⟩,gi⟩:=st
  have la:=ra.length
  have hsz:is.toArray.size=i:=by simp;omega
  refine wpAny_pyNext_enum_endD (Draws.list (A:=X.A.in1) (I.ok.hd hc) it a hia is.toArray) ge ⟨by rw [hsz];exact gi,pa.isList⟩ fun h' eb=>⟨rfl,I.iH (fp:=[e,it]) (t':=s.toks) (fun c o hc q=>?_) hf⟩
  simp only [Ii,IY,or_false,not_or] at hc
  exact eb c o hc.2 q
 self:=fun _ _ _ _ _ st h=>Lr st.1.choose_spec h
theorem wc:bootBuiltins "enumerate" = some (.type "enumerate"):=by decide +kernel
def GF (K:Ih)(ta:TA):TI:=fun Ic H R=>ta Ic H fun vs H1=>∃a,vs=[.ref a]/\((∃xs,ar K H1 a xs)/\R (pB (ar K) a) H1\/(∃xs,aN K H1 a xs)/\R (pB (aN K) a) H1)
theorem yg {a:Expr} {ta:TA} {p pos tp:Pos} {elts:List Expr} {kk:Nat} (hg:Gl X "enumerate") (hm:X.mg "enumerate" = none) (ha:PA X [a] ta) (hs:starEach [a] X.env=[(false,eval a X.env)]:=by rfl) :
  PI X (.Tuple elts kk tp) (.Call (.Name "enumerate" p) [a] [] pos) (GF X.K ta):=by
 intro pins s Ic H R I h
 refine Call_ (jF I hg hm wc (PyProof.Rows.callWith_type1 (br (ha pos pins s Ic H _ I h) fun us s1 ⟨vs,H1,I1,r1,q1⟩=>?_) hs rfl))
 obtain⟨x,e,q⟩:=q1
 subst e
 cases r1 with
 | cons r rr =>
  cases rr
  cases r
  have le1:∀c∈[s1.heap.objs.size+1,s1.heap.objs.size],s1.heap.objs.size<=c:=fun c hc=>by
   simp only [Ii,IY,or_false] at hc
   rcases hc with rfl | rfl
   ·exact Jl _
   ·exact Ij _
  rcases q with ⟨⟨xs,hx⟩,q⟩ | ⟨⟨xs,hx⟩,q⟩
  ·obtain⟨is,rx,px,_⟩:=I1.tuple hx
   have lx:x<s1.heap.objs.size:=px.lt
   refine Er (show s1.heap.IsTuple x is.toArray from px) fun g ge gi up=>?_
   refine Lr ge ?_
   have I2:Inv X pins Ic H1 { s1 with heap:=g }:=I1.kept (t':=s1.toks) up
   exact⟨_,[s1.heap.objs.size+1,s1.heap.objs.size],_,pB (ar X.K) x,H1,rfl,I2,zh x _ _ (Ji (Jk _)) (Ji (Jd lx)) (Iq lx),⟨⟨_,ge⟩,gi⟩,fun c hc=>I1.kB (le1 c hc) (I1.aW.fresh (le1 c hc)),q⟩
  ·obtain⟨is,rx,px,_⟩:=I1.list hx
   have lx:x<s1.heap.objs.size:=by obtain⟨o,eo,_⟩:=px.isList;exact Ik eo
   refine call_enumerate_list px.isList fun g ge gi _ up=>?_
   refine Lr ge ?_
   have I2:Inv X pins Ic H1 { s1 with heap:=g }:=I1.kept (t':=s1.toks) up
   exact⟨_,[s1.heap.objs.size+1,s1.heap.objs.size],_,pB (aN X.K) x,H1,rfl,I2,zi x _ _ (Ji (Jk _)) (Ji (Jd lx)) (Iq lx),⟨⟨_,ge⟩,gi⟩,fun c hc=>I1.kB (le1 c hc) (I1.aW.fresh (le1 c hc)),q⟩
end
theorem Cw {Sq:Hp->Addr->List V->Prop}{a:Addr}{xs:List V}{g:TG}{tb:TS}{D:Ends}{Ic : St}{H:Hp}(Pv:Nat->St->Hp->Prop)(h0:Pv 0 Ic H)(hl:∀i Ic H,i<=xs.length->Pv i Ic H->Sq H a xs)
  (hs:∀i x Ic H t,xs[i]?=some x->H t=none->Pv i Ic H->g (.ref t) Ic (upd H t (.tup [.int (i:Nat),x])) fun σ2 H2=>tb { D with nx:=Pv (i+1),ct:=Pv (i+1),bk:=D.nx } σ2 H2) (hd:∀Ic H,Pv xs.length Ic H->D.nx Ic H) :
  ∃W:Nat->Nat->St->Hp->Prop,(∃m,W 0 m Ic H)/\∀i m Ic H,W i m Ic H ->
   ((pB Sq a).stop i H/\D.nx Ic H)\/((pB Sq a).go i H/\∃N:St->Hp->Prop,(∀σ' H',N σ' H'->∃m',m' < m/\W (i+1) m' σ' H')/\∀x H',(pB Sq a).tJ i H x H'->g x Ic H' fun σ2 H2=>tb { D with nx:=N,ct:=N,bk:=D.nx } σ2 H2):=by
 refine⟨fun i m Ic H=>m=xs.length-i/\i<=xs.length/\Pv i Ic H,⟨xs.length,by simp,IF _,h0⟩,?_⟩
 rintro i m Ic H ⟨rfl,hi,p⟩
 have q:=hl i Ic H hi p
 by_cases hlt:i<xs.length
 ·refine .inr ⟨⟨xs,xs[i],q,by simp [hlt]⟩,Pv (i+1),fun σ' H' p'=>⟨xs.length-(i+1),by omega,rfl,hlt,p'⟩,fun v H' y=>?_⟩
  obtain⟨t,x,rfl,ht,rfl,h⟩:=y
  exact hs i x Ic H t (h xs q) ht p
 ·have e:i=xs.length:=by omega
  subst e
  exact .inl ⟨⟨xs,q,rfl⟩,hd Ic H p⟩
theorem Es {Sq:Hp->Addr->List V->Prop}{a acc:Addr}{xs:List V}{n:Nat}{js:List Nat}{g:TG}{ct:TT}{te:TE}{Ic : St}{H1:Hp}{Q:VK}(Pv:Nat->List V->St->Hp->Prop)(h0:Pv 0 [] (nc n js Ic) (upd H1 acc (.lst [])))
  (hl:∀i zs Ie H,i<=xs.length->Pv i zs Ie H->Sq H a xs/\H acc=some (.lst zs)/\zs.length<sizeLine)
  (hs:∀i x zs Ie H t,xs[i]?=some x->H t=none->Pv i zs Ie H->g (.ref t) Ie (upd H t (.tup [.int (i:Nat),x])) fun τ1 H4=>ct τ1 H4 fun b H5=>if b=true then te τ1 H5 fun v H6=>H6 acc=some (.lst zs)/\Pv (i+1) (zs++[v]) τ1 (upd H6 acc (.lst (zs++[v]))) else Pv (i+1) zs τ1 H5)
  (hd:∀zs Ie H,Pv xs.length zs Ie H->Q (.ref acc) H) :
  vx (pB Sq a) n js g ct te acc Ic H1 Q:=by
 refine⟨fun i m zs Ie H=>m=xs.length-i/\i<=xs.length/\Pv i zs Ie H,⟨xs.length,by simp,IF _,h0⟩,?_⟩
 rintro i m zs Ie H ⟨rfl,hi,p⟩
 obtain⟨qa,q2,q3⟩:=hl i zs Ie H hi p
 refine⟨q2,q3,?_⟩
 by_cases hlt:i<xs.length
 ·refine .inr ⟨⟨xs,xs[i],qa,by simp [hlt]⟩,Pv (i+1),fun zs' τ' H' p'=>⟨xs.length-(i+1),by omega,rfl,hlt,p'⟩,fun v H' y=>?_⟩
  obtain⟨t,x,rfl,ht,rfl,h⟩:=y
  exact hs i x zs Ie H t (h xs qa) ht p
 ·have e:i=xs.length:=by omega
  subst e
  exact .inl ⟨⟨xs,qa,rfl⟩,hd zs Ie H p⟩
section
variable {X:Cx}{pos:Pos}
end
section
variable {X:Cx}{pos:Pos}
end
section
variable {X:Cx}{pos:Pos}
end
section
variable {X:Cx}{K:Ih}
end
section
variable {X:Cx}
end
end L2
namespace LS
open PySem PySem.Spec PyProof.Rows L2
section
variable {prog:Program}{w:World}{A:Around}{E:Value->Shared->Prop}{s:Shared}{I l:Addr}{its:Array Value}
end
section
variable {prog:Program}{w:World}{A:Around}{E:Value->Shared->Prop}{s:Shared}{I l:Addr}{its:Array Value}
end
end LS
namespace L2
open PySem PySem.Spec PyProof.Rows
section
variable {X:Cx}
end
end L2
namespace LS
open PySem PySem.Spec PyProof.Rows L2
section
variable {prog:Program}{w:World}{K:Type}[DecidableEq K]{knd:KeyKind prog w K}
variable {A:Around}{E:Value->Shared->Prop}{s:Shared}{a:Addr}{ks:List K}
end
section
variable {prog:Program}{w:World}{A:Around}{E:Value->Shared->Prop}{s:Shared}
end
end LS
namespace L2
open PySem PySem.Spec PyProof.Rows LS
section
variable {X:Cx}
end
end L2
namespace HT
open PySem PySem.Spec PyProof.Rows
section
variable {prog:Program}{w:World}{A:Around}{E:Value->Shared->Prop}{s:Shared}
end
end HT
namespace L2
open PySem PySem.Spec PyProof.Rows LS
section
variable {X:Cx}
end
section
variable {prog:Program}{w:World}{A:Around}{E:Value->Shared->Prop}{s:Shared}
theorem we {l:Addr}{vs:List Value}{ns:List Str}{Q:Value->Shared->Prop}(hl:s.heap.IsList l vs.toArray)(hI:StrsAre vs ns)(h64:vs.length<64)
  (q:∀(h':Heap) (D:Addr) (out:Array Value) (ns':List Str) (e:Nat),(∀b o,s.heap.get? b=some o->h'.get? b=some o)->s.heap.objs.size<=D->h'.get? D=some { cls:=.type "list",data:=.seq out e } ->
   StrsAre out.toList ns'->ns'.Perm ns->sortedS ns' = true->Q (.ref D) { s with heap:=h' }):wpAny (model prog w) A (call (.builtin "sorted") [.ref l]) Q E s:=by
 refine sorted_strs hl hI h64 fun out ns' a1 a2 a3=>?_
 unfold sortedAll
 generalize hg:((s.heap.push (seqObj "list" #[] 0)).update s.heap.objs.size (Obj.mapSeq (· ++ vs.toArray)))=g
 have hz:g.objs.size=s.heap.objs.size+1:=by rw [<-hg,Heap.size_update,size_push']
 have kp:∀b o,s.heap.get? b=some o->g.get? b=some o:=fun b o e=>by
  rw [<-hg]
  exact (Jt _ _ (Ji (Ik e))).trans (Im _ e)
 have hoL:(g.push (seqObj "list" vs.toArray 0)).get? (s.heap.objs.size+1)=some (seqObj "list" vs.toArray 0):=by rw [<-hz];exact Ip _ rfl
 obtain⟨e,he⟩:=sortedHeap_at (out:=out) hoL
 refine q _ _ out ns' e (fun b o ho=>?_) (Jl _) he a1 a2 a3
 have h1:=kp b o ho
 have hlt:=Ik ho
 rw [sortedHeap_old (Iq (Jd hlt)) (by rw [size_push',hz];exact Jd (Jd hlt))]
 exact Im _ h1
end
section
variable {X:Cx}
theorem uN:eO X (.builtin "sorted") (fun vs H Q=>∃(p:Addr) (ns:List Str),vs=[.ref p]/\aN X.K H p (ns.map V.str)/\ns.length<64 /\
  ∀(l:Addr) (ns':List Str),ns'.Perm ns->sortedS ns' = true->H l=none->Q (.ref l) (upd H l (.lst (ns'.map V.str)))):=by
 intro pins s Ic H xs us Q I r h
 obtain⟨p,ns,rfl,hp,h64,q⟩:=h
 obtain⟨u,rfl,ru⟩:=vals1 r
 cases (show u=Value.ref p from ru)
 obtain⟨its,hv,pl,_⟩:=I.list hp
 have hi:=qJ hv
 refine we pl.isList hi (by have:=hv.length;rw [Ig] at this;omega) fun h' D out ns' e hkeep hD he hS hp' hs=>?_
 have hv':Vals (ns'.map V.str) out.toList:=oC hS
 refine⟨.ref D,_,I.laid (t':=s.toks) (o:=.lst (ns'.map V.str)) hkeep hD (show b6 X.prog X.w _ h' _ (.lst (ns'.map V.str)) from ⟨?_,out.toList,e,hv',by simpa using he⟩),rfl,q D ns' hp' hs (I.aW.fresh hD)⟩
 rw [Ig,hp'.length_eq]
 exact Ir (IS h64) (by decide)
end
section
variable {X:Cx}
end
section
variable {ps:List Piece}{a b:Nat}{p q:Piece}
end
section
variable {X:Cx}{P:Program}{w:World}
end
theorem AQ (ns:List Nat):(PyData.tuple (ns.map kG)).canLay0=true:=dq _ fun d hd=>by obtain⟨x,_,rfl⟩:=Iv.mp hd;rfl
section
variable {P:Program}{w:World}{H H':Hp}{d:Addr}{n:Nat}{us:List ((Nat×Nat)×Addr)}
end
theorem take1 {α : Type}{ds:List α}{i:Nat}{d:α}(h:ds[i]?=some d):ds.take (i+1)=ds.take i++[d]:=by rw [IP,h];rfl
section
variable (P:Program)(w:World)
end
theorem gd {X:Cx}{K:Ih}(h:X.K=K):xB X (Fb K):=by subst h;exact aY
section
variable {X:Cx}
inductive FQ (K:Ih) (x:V) (y:V) (H:Hp) (Q:VK):Prop
 | mk (p q xs:_) (_:x=.ref p) (_:y=.ref q) (_:aN K H p xs) (_:aN K H q []) (_:Q (.bl xs.isEmpty) H)
theorem wg (hu:X.A.units+64<cLine):d5 X (compareOp .Eq) (FQ X.K):=by
 intro pins s Ic H x y v u Q I rx ry h
 obtain⟨p,q,xs,rfl,rfl,hp,hq,k⟩:=h
 cases rx
 cases ry
 obtain⟨its,r1,p1,_⟩:=I.list hp
 obtain⟨its2,r2,p2,_⟩:=I.list hq
 cases r2
 have hl:=r1.length
 cases xs with
 | nil =>
  have e:its=[]:=Ku.mp hl.symm
  subst e
  exact SeqAt.eq_listAt (e:=fun _=>true) p1.isList p2.isList rfl (by omega) (fun j h1=>absurd h1 (Nat.not_lt_zero j)) ⟨.bl _,H,I,rfl,k⟩
 | cons x xs =>
  refine SeqAt.eq_list_lengthsAt p1.isList p2.isList ?_ (by omega) ⟨.bl false,H,I,rfl,k⟩
  cases its with
  | nil=>cases hl
  | cons i its=>rfl
end
theorem LT.rH {H:Hp}{d:Addr}{T:Str->Sx}{m k:Nat}(h:LT H d T m)(f:jX T k):LT H d T k:=by
 obtain⟨kvs,ks,g1,g2,g3,g4⟩:=h
 exact⟨kvs,ks,g1,g2,g3,f ks g3 g2.nd⟩
section
variable {X:Cx}
end
section
variable {ps:List Piece}
end
section
variable {X:Cx}
end
theorem aR.setAt {H:Hp}{v:V}{d:PyData}(r:aL H v d):∀{xs:List V} {ds:List PyData} (j:Nat),aR H xs ds->aR H (xs.set j v) (ds.set j d)
 | _,_,_,.nil=>.nil
 | _,_,0,.cons _ rs=>.cons r rs
 | _,_,j+1,.cons q rs=>.cons q (aR.setAt r j rs)
section
variable {prog:Program}{w:World}{A:Around}{E:Value->Shared->Prop}{s:Shared}
end
section
variable {X:Cx}
end
abbrev G1:=(Nat×Nat)×List Str
section
variable {ps:List Piece}{ms:List G1}{at_ f:Nat}{x:G1}{p q:Piece}
end
section
variable (P:Program)(w:World)
end
theorem qd:fillsNumberSlot (.type "tuple") "mul" = pure false :=
 PySem.fillsNumberSlot_seq (id := "tuple.__mul__") (r:=some (.builtin "tuple.__rmul__")) F.slot_tuple_mul.lookup (by decide +kernel) F.slot_tuple_rmul.lookup (by decide +kernel)
theorem wj:seqRepeat? (.type "tuple")=pure (some (.builtin "tuple.__mul__")):=by
 unfold seqRepeat?
 rw [PySem.seqSlot_of (T := "tuple") (name := "__mul__") (id := "tuple.__mul__") F.slot_tuple_mul.lookup (by decide +kernel),PySem.seqSlot_of (T := "tuple") (name := "__rmul__") (id := "tuple.__rmul__") F.slot_tuple_rmul.lookup (by decide +kernel)]
 rfl
theorem Cy (a:Int)(t:Tok)(l:Addr)(items:Array Value)(n:Nat)(dd:Option Addr)(sl:Array (Option Value)) :
  Meets (Builtin.«int.__rmul__» ⟨[.int a t,.ref l],[]⟩) (fun _ R s=>s.heap.get? l=some { cls:=.type "tuple",dict:=dd,data:=.seq items n,slots:=sl }/\R (.ok (.ret Value.notImplemented)) s) :=
 .of_wp fun prog w A R s h=>by obtain⟨hp,g,d,tk,os⟩:=s;obtain⟨hl,h⟩:=h;wp_walk;exact⟨_,rfl,h⟩
theorem Cz (t:Tok)(l:Addr)(items:Array Value)(n:Nat)(dd:Option Addr)(sl:Array (Option Value)) :
  Meets (Builtin.«tuple.__mul__» ⟨[.ref l,.int 1 t],[]⟩) (fun _ R s=>s.heap.get? l=some { cls:=.type "tuple",dict:=dd,data:=.seq items n,slots:=sl }/\R (.ok (.ret (.ref l))) s) :=
 .of_wp fun prog w A R s h=>by obtain⟨hp,g,d,tk,os⟩:=s;obtain⟨hl,h⟩:=h;wp_walk;exact⟨_,rfl,h⟩
theorem CA (k:Int)(t:Tok)(l:Addr)(items:Array Value)(n:Nat)(dd:Option Addr)(sl:Array (Option Value))(hA:¬(decide (k < -(2 ^ 63))||decide (k >= 2 ^ 63))=true)(hB:¬(items.isEmpty||k == 1)=true)(hC:(decide (k<=0)||items.isEmpty)=true) :
  Meets (Builtin.«tuple.__mul__» ⟨[.ref l,.int k t],[]⟩) (fun _ R s=>s.heap.get? l=some { cls:=.type "tuple",dict:=dd,data:=.seq items n,slots:=sl }/\R (.ok (.ret (Value.ref s.heap.objs.size))) { s with heap:=s.heap.push { cls:=Value.type "tuple",data:=Data.seq #[] },toks:=s.toks }) :=
 .of_wp fun prog w A R s h=>by obtain⟨hp,g,d,tk,os⟩:=s;obtain⟨hl,h⟩:=h;wp_walk;(rw [if_neg hA]);wp_walk;exact⟨_,rfl,h⟩
theorem CB (k:Int)(t:Tok)(l:Addr)(items:Array Value)(n:Nat)(dd:Option Addr)(sl:Array (Option Value))(hA:¬(decide (k < -(2 ^ 63))||decide (k >= 2 ^ 63))=true)(hB:¬(items.isEmpty||k == 1)=true)(hC:¬(decide (k<=0)||items.isEmpty)=true)
  (hD:¬(items.size:Int)*k > (2 ^ 63-1) / 8) (hE:¬Builtin.Tuple.tupleTooMany ((items.size:Int)*k)=true) (hF:¬((IX k.toNat items).foldl (· ++ ·) #[]).size > sizeLine) :
  Meets (Builtin.«tuple.__mul__» ⟨[.ref l,.int k t],[]⟩) (fun _ R s=>s.heap.get? l=some { cls:=.type "tuple",dict:=dd,data:=.seq items n,slots:=sl }/\R (.ok (.ret (Value.ref s.heap.objs.size))) { s with heap:=s.heap.push { cls:=Value.type "tuple",data:=Data.seq ((IX k.toNat items).foldl (· ++ ·) #[]) },toks:=s.toks }) :=
 .of_wp fun prog w A R s h=>by obtain⟨hp,g,d,tk,os⟩:=s;obtain⟨hl,h⟩:=h;wp_walk;(rw [if_neg hA]);wp_walk;(rw [if_neg hD]);wp_walk;exact⟨_,rfl,h⟩
section
variable {X:Cx}
inductive GG  (x:V) (y:V) (H:Hp) (Q:VK):Prop
 | mk (l k xs:_) (_:x=.ref l) (_:y=.int k) (_:H l=some (.tup xs)) (_:xs≠[]) (_:k<2 ^ 20) (_:0<=k) (_:xs.length<=3) (_:∀p H',H' p=some (.tup (IX k.toNat xs).flatten)->ae H H'->Q (.ref p) H')
theorem Et:d5 X (binaryOp .Mult) GG:=by
 intro pins s Ic H x y v u Q I rx ry h
 obtain⟨l,k,xs,rfl,rfl,hH,hne,h1,h0,hx3,q⟩:=h
 cases rx
 obtain⟨t,rfl⟩:=ry
 obtain⟨its,r,p1,_⟩:=I.tuple (ar.of hH)
 obtain⟨⟨cls,dd,data,sl⟩,e,hc,n,hd⟩:=id p1
 simp only at hc hd
 subst hc hd
 have hl:=r.length
 have hne':its≠[]:=fun z=>hne (r.ow.mp z)
 have hem:its.toArray.isEmpty=false:=by cases its with | nil=>exact absurd rfl hne' | cons a b=>rfl
 have hA:¬(decide (k < -(2 ^ 63))||decide (k >= 2 ^ 63))=true:=by
  rw [decide_eq_false (by omega),decide_eq_false (by omega)];decide
 refine wpAny_binaryOp_repeat_ref (T := "tuple") (U := "int") (by decide) ⟨_,e,rfl⟩ (fun s'=>typeIs_int s' k t) qd F.fills_int_mul F.slot_int_rmul wj F.slot_int_index.lookup
  (call_meets F.slot_int_rmul (typeIs_int s k t) F.entry_int_rmul (F.args_int_rmul_2 _ _) (Cy k t l its.toArray n dd sl)
   ⟨e,rfl,⟨_,e,rfl⟩,?_⟩)
 have fr:=I.aW.fresh (a:=s.heap.objs.size) (Ij _)
 by_cases hk1:k=1
 ·subst hk1
  refine call_meets F.slot_tuple_mul ⟨_,e,rfl⟩ F.entry_tuple_mul (F.args_tuple_mul_2 _ _) (Cz t l its.toArray n dd sl) ⟨e,?_⟩
  refine⟨.ref l,H,I,rfl,q l H ?_ (ae.refl H)⟩
  rw [hH]
  show some (HO.tup xs)=some (HO.tup (IX 1 xs).flatten)
  simp
 have hB:¬(its.toArray.isEmpty||k == 1)=true:=by rw [hem,beq_false_of_ne hk1];decide
 by_cases hk0:k<=0
 ·have hC:(decide (k<=0)||its.toArray.isEmpty)=true:=by rw [decide_eq_true hk0];rfl
  refine call_meets F.slot_tuple_mul ⟨_,e,rfl⟩ F.entry_tuple_mul (F.args_tuple_mul_2 _ _) (CA k t l its.toArray n dd sl hA hB hC) ⟨e,?_⟩
  have hk:k.toNat=0:=by omega
  rw [hk] at q
  refine⟨.ref s.heap.objs.size,_,I.laid (t':=s.toks) (o:=.tup []) (fun b ob q=>Im _ q) (Ij _) ?_,rfl,q _ _ aa (ae.new fr)⟩
  exact⟨IF _,[],.nil,⟨_,Ip _ rfl,rfl,_,rfl,rfl⟩⟩
 ·have hC:¬(decide (k<=0)||its.toArray.isEmpty)=true:=by rw [decide_eq_false hk0,hem];decide
  have hi3:its.toArray.size<=3:=by rw [ID];omega
  have hm:(its.toArray.size:Int)*k<=3*2 ^ 20:=by
   have h2:(its.toArray.size:Int)*k<=3*k:=Int.mul_le_mul_of_nonneg_right (by omega) h0
   omega
  have hD:¬(its.toArray.size:Int)*k > (2 ^ 63-1) / 8:=by
   have:(3*2 ^ 20:Int)<=(2 ^ 63-1) / 8:=by decide
   omega
  have hE:¬Builtin.Tuple.tupleTooMany ((its.toArray.size:Int)*k)=true:=by
   unfold Builtin.Tuple.tupleTooMany
   have:(3*2 ^ 20:Int)<=(sizeLine:Int):=by decide
   rw [decide_eq_false (by omega)];decide
  have hnew:List.foldl (fun x1 x2=>x1++x2) #[] (IX k.toNat its.toArray)=(IX k.toNat its).flatten.toArray:=by
   have:=foldl_rep its k.toNat []
   rw [List.nil_append] at this
   exact this
  have h3':k.toNat*its.length<=2 ^ 20*3:=Nat.mul_le_mul (by omega) (by omega)
  have hF:¬((IX k.toNat its.toArray).foldl (· ++ ·) #[]).size > sizeLine:=by
   rw [hnew,ID,len_rep]
   have:2 ^ 20*3<=sizeLine:=by decide
   omega
  refine call_meets F.slot_tuple_mul ⟨_,e,rfl⟩ F.entry_tuple_mul (F.args_tuple_mul_2 _ _) (CB k t l its.toArray n dd sl hA hB hC hD hE hF) ⟨e,?_⟩
  rw [hnew]
  refine⟨.ref s.heap.objs.size,_,I.laid (t':=s.toks) (o:=.tup (IX k.toNat xs).flatten) (fun b ob q=>Im _ q) (Ij _) ?_,rfl,q _ _ aa (ae.new fr)⟩
  refine⟨?_,_,r.rep k.toNat,⟨_,Ip _ rfl,rfl,_,rfl,rfl⟩⟩
  rw [len_rep]
  have h3:k.toNat*xs.length<=2 ^ 20*3:=Nat.mul_le_mul (by omega) hx3
  exact Ir h3 (by decide)
end
def md (n x:Nat):Nat:=if x<n then x else x-n
section
variable {n odd a b i j:Nat}
end
open AutoSeq1 (wpAny_loadPart')
section
variable {prog:Program}{w:World}{A:Around}{E:Value->Shared->Prop}{s:Shared}
end
section
variable {prog:Program}{w:World}{A:Around}{E:Value->Shared->Prop}{s:Shared}
end
section
variable {X:Cx}
end
section
variable {ps qs:List Piece}{src:List Nat}
end
theorem CC (xs:List Nat):(PyData.tuple (xs.map kG)).depth<=60:=by
 have h:=jC (m:=0) (xs.map kG) fun d hd=>by obtain⟨s,_,rfl⟩:=Iv.mp hd;exact Ij 0
 show PyData.depthAll (xs.map kG)+1<=60
 omega
abbrev Pp:=Int×(Str->Sx)
def AR (H:Hp)(v:V)(c:Pp):Prop:=∃q u,v=.ref q/\H q=some (.tup [.int c.1,u])/\FV H u c.2
abbrev j0 (H:Hp)(vs:List V)(cs:List Pp):Prop:=Paired (AR H) vs cs
theorem AR.av {H H':Hp}{v:V}{c:Pp}(h:AR H v c)(k:∀p xs,H p=some (.tup xs)->H' p=some (.tup xs)):AR H' v c:=by
 obtain⟨q,u,e,h1,h2⟩:=h
 exact⟨q,u,e,k _ _ h1,h2.av k⟩
theorem j0.av {H H':Hp}(k:∀p xs,H p=some (.tup xs)->H' p=some (.tup xs)):∀{vs:List V} {cs:List Pp},j0 H vs cs->j0 H' vs cs
 | _,_,.nil=>.nil
 | _,_,.cons h t=>.cons (h.av k) (j0.av k t)
theorem j0.same {H H':Hp}{vs:List V}{cs:List Pp}(h:j0 H vs cs)(s:ae H H'):j0 H' vs cs:=h.av fun p xs e=>s _ _ e
def Mt (paper:List Pp)(at_ w:Nat)(U:Str->Sx):Prop:=∃c,paper[at_]?=some c/\c.1=(w:Int)/\∀x,jr (U x) (c.2 x)=true
def Dj (paper:List Pp)(T:Str->Sx):End->End->Prop
 | .stop,.stop=>True
 | .go p,.go q=>Mt paper q p T
 | .cm b x n p q,.go r=>∃ld,cx T (.cm b x n p q)=[ld]/\Mt paper r ld.1 ld.2
 | .cm b x n p q,.cm b' x' n' p' q'=>(b=b'/\x=x'/\n=n')/\(∀U,(de T b x n true).map (cb T x)=some U->Mt paper p' p U)/\∀U,(de T b x n false).map (cb T x)=some U->Mt paper q' q U
 | _,_=>False
structure GH (ps qs:List Piece) (paper:List Pp):Prop where
 len:paper.length=qs.length
 Ia:∀c∈paper,0<=c.1/\c.1<ps.length
 first:∃c,paper[0]?=some c/\c.1=0/\Sound c.2 (fun _=>0)
 all:∀(k:Nat) (c:Pp) (p q:Piece),paper[k]?=some c->ps[c.1.toNat]?=some p->qs[k]?=some q->p.1=q.1/\Dj paper (bp c.2 p.1) p.2 q.2
inductive yh  (vs:List V) (H:Hp) (Q:VK) (_:XK):Prop
 | mk (ov lv:V) (c:Pp) (k:Nat) (U:Str->Sx) (_:vs=[ov,lv]) (_:AR H ov c) (_:PV H lv (k,U)) (_:jX c.2 63) (_:∀b H',(b=true↔(c.1=(k:Int)/\∀x,jr (U x) (c.2 x)=true))->ae H H'->Q (.bl b) H')
def fw (c:Cp):Pp:=((c.1:Int),c.2)
theorem wm {cs:List Cp}{k:Nat}{c:Cp}(h:cs[k]?=some c):(cs.map fw)[k]?=some (fw c):=by rw [Iu,h];rfl
theorem uw {xs:List Str}{ps:List Piece}{m most:Nat}(bY:cI xs m ps)(hn0:0<ps.length)(hm:1<=most):GH ps (dt ps most).2 ((dt ps most).1.map fw):=by
 obtain⟨I,hl,more,e⟩:=jZ bY hn0 hm
 refine⟨by rw [Ig,hl],fun c hc=>?_,⟨fw (iA ps),wm (by rw [e];rfl),?_,?_⟩,fun k c p q hk hp hq=>?_⟩
 ·obtain⟨c',hc',rfl⟩:=Iv.mp hc
  have:=(I.ok c' hc').1
  show 0<=(c'.1:Int)/\(c'.1:Int)<_
  omega
 ·unfold iA
  split <;> rfl
 ·unfold iA
  split
  ·exact zg
  ·intro x
   show eQ 0 (startT ps x).1 (startT ps x).2=true
   unfold startT
   split <;> rfl
 ·obtain⟨c',pc,ns,h1,h2,rfl,h4⟩:=I.rel k q hq
  rw [wm h1] at hk
  cases hk
  have hp:ps[c'.1]?=some p:=hp
  rw [h2] at hp
  have hp:=IA.inj hp
  subst hp
  refine⟨rfl,?_⟩
  show Dj ((dt ps most).1.map fw) (bp c'.2 pc.1) pc.2 (gG pc.2 ns)
  generalize (dt ps most).1=cs at h4
  have go:∀{l:Cp} {a:Nat},(∃c':Cp,cs[a]?=some c'/\c'.1=l.1/\((¬df ps l.1/\c'.2=l.2)\/(c'.2=T0/\(df ps l.1\/most<=cs.length))))->Mt (cs.map fw) a l.1 l.2:=fun ⟨c',g1,g2,g3⟩=>by
   refine⟨fw c',wm g1,by show (c'.1:Int)=_;rw [g2],fun x=>?_⟩
   show jr _ (c'.2 x)=true
   rcases g3 with ⟨_,e⟩ | ⟨e,_⟩
   ·rw [e];exact Ck _
   ·rw [e];exact sN _
  obtain⟨ds,e⟩:=pc
  dsimp only at h4 ⊢
  generalize bp c'.2 ds=T at h4
  unfold Goes at h4
  cases e with
  | stop =>
   cases h4
   exact True.intro
  | go q =>
   have hl1:cx T (.go q)=[(q,T)]:=rfl
   rw [hl1] at h4
   cases h4 with
   | cons r t =>
    cases t
    exact go r
  | cm b x n q r =>
   have hld:=Cv (T:=T) (b:=b) (x:=x) (n:=n) (q:=q) (r:=r)
   rw [hld] at h4
   cases h1':de T b x n true with
   | none =>
    cases h2':de T b x n false with
    | none =>
     rw [h1',h2'] at h4
     cases h4
     refine⟨⟨rfl,rfl,rfl⟩,fun U hU=>?_,fun U hU=>?_⟩
     ·rw [h1'] at hU;cases hU
     ·rw [h2'] at hU;cases hU
    | some s2 =>
     rw [h1',h2'] at h4 hld
     cases h4 with
     | cons r1 t =>
      cases t
      exact⟨_,hld,go r1⟩
   | some s1 =>
    cases h2':de T b x n false with
    | none =>
     rw [h1',h2'] at h4 hld
     cases h4 with
     | cons r1 t =>
      cases t
      exact⟨_,hld,go r1⟩
    | some s2 =>
     rw [h1',h2'] at h4
     cases h4 with
     | cons r1 t =>
      cases t with
      | cons r2 t =>
       cases t
       refine⟨⟨rfl,rfl,rfl⟩,fun U hU=>?_,fun U hU=>?_⟩
       ·rw [h1'] at hU;cases hU;exact go r1
       ·rw [h2'] at hU;cases hU;exact go r2
section
variable {P:Program}{w:World}{K:Ih}{mg:Str->Option Value}{base h:Heap}{x q m:Str}{st:Stmt}{f C:Addr}{fd:FuncData}{k:Nat}{ps:List Str}{sp:Sp}
structure bI (K:Ih) (x:Str) (st:Stmt) (f:Addr) (fd:FuncData):Prop where
 a:IQ K mainGlobals x=some (some (.ref f))
 F:bR K x x st f fd
structure gC (K:Ih) (C:Addr) (x q:Str) (st:Stmt) (f:Addr) (fd:FuncData):Prop where
 a:IW K (.ref C) x=some (some (.ref f))
 i:J0 K (.ref f)=true
 F:bR K x q st f fd
section
variable {oc:Value}{od an:Option Addr}{osl:Array (Option Value)}{kV doc pm cdv ct:Value}
theorem def_mk (a:IQ K mainGlobals x=some (some (.ref f)))(l:K.lookup f=some ⟨oc,od,.func (Je x x (d6 st) (dH st) (au st) .none kV doc pm an cdv ct),osl⟩)
  (c:JH K cdv x=true) (k:Jn K (.ref f)=true):bI K x st f (Je x x (d6 st) (dH st) (au st) .none kV doc pm an cdv ct):=⟨a,zU l c k⟩
theorem met_mk (a:IW K (.ref C) x=some (some (.ref f)))(i:J0 K (.ref f)=true)(l:K.lookup f=some ⟨oc,od,.func (Je x q (d6 st) (dH st) (au st) .none kV doc pm an cdv ct),osl⟩)
  (c:JH K cdv q=true) (k:Jn K (.ref f)=true):gC K C x q st f (Je x q (d6 st) (dH st) (au st) .none kV doc pm an cdv ct):=⟨a,i,zU l c k⟩
end
def mi (x q:Str)(st:Stmt)(ps:List Str):Prop:=∀(kV doc pm:Value) (an:Option Addr) (cdv ct:Value) (us:List Value),us.length=ps.length->bindArgs (Je x q (d6 st) (dH st) (au st) .none kV doc pm an cdv ct) ⟨us,[]⟩=pure (ps.zip us)
theorem bD (P:Program)(w:World)(base:Heap)(X:K.In h)(G:h.Ns mainGlobals mg)(d:bI K x st f fd)(o:bu P w K mg base bQ k f fd ps sp)(b:mi x x st ps):Own P w K mg base x k ps sp:=⟨⟨_,_,o,JN X G d.a,d.F.kp,d.F.binds b⟩⟩
theorem hV (P:Program)(w:World)(base:Heap)(mg:Str->Option Value)(T:jK K C)(d:gC K C x q st f fd)(o:bu P w K mg base bQ k f fd ps sp)(b:mi x q st ps):jT P w K mg base C x k ps sp:=⟨T,⟨_,_,o,⟨d.a,d.i,d.F.kp⟩,d.F.binds b⟩⟩
theorem yi (P:Program) (w:World) (base:Heap) (X:K.In h) (G:h.Ns mainGlobals mg) (aC:IQ K mainGlobals m=some (some (.ref C))) (mk:J1 K C=true) (kc:Jn K (.ref C)=true) (d:gC K C "__init__" q st f fd) (o:bu P w K mg base bQ k f fd ps sp) (b:mi "__init__" q st ps):yS P w K mg base C m k ps sp:=⟨⟨_,_,o,⟨mk,d.a,d.i,kc⟩,JN X G aC,d.F.binds b⟩⟩
section
variable {p1 p2 p3 p4 p5 p6:Str}
theorem jt (h:∀(kV doc pm:Value) (an:Option Addr) (cdv ct u1:Value),bindArgs (Je x q (d6 st) (dH st) (au st) .none kV doc pm an cdv ct) ⟨[u1],[]⟩=pure [(p1,u1)]):mi x q st [p1]:=fun _ _ _ _ _ _ us hl=>match us,hl with | [_],_=>h ..
theorem fz (h:∀(kV doc pm:Value) (an:Option Addr) (cdv ct u1 u2:Value),bindArgs (Je x q (d6 st) (dH st) (au st) .none kV doc pm an cdv ct) ⟨[u1,u2],[]⟩=pure [(p1,u1),(p2,u2)]):mi x q st [p1,p2]:=fun _ _ _ _ _ _ us hl=>match us,hl with | [_,_],_=>h ..
theorem mM (h:∀(kV doc pm:Value) (an:Option Addr) (cdv ct u1 u2 u3:Value),bindArgs (Je x q (d6 st) (dH st) (au st) .none kV doc pm an cdv ct) ⟨[u1,u2,u3],[]⟩=pure [(p1,u1),(p2,u2),(p3,u3)]):mi x q st [p1,p2,p3]:=fun _ _ _ _ _ _ us hl=>match us,hl with | [_,_,_],_=>h ..
theorem FR (h:∀(kV doc pm:Value) (an:Option Addr) (cdv ct u1 u2 u3 u4:Value),bindArgs (Je x q (d6 st) (dH st) (au st) .none kV doc pm an cdv ct) ⟨[u1,u2,u3,u4],[]⟩=pure [(p1,u1),(p2,u2),(p3,u3),(p4,u4)]):mi x q st [p1,p2,p3,p4]:=fun _ _ _ _ _ _ us hl=>match us,hl with | [_,_,_,_],_=>h ..
end
end
theorem cy {N ps:List Str}{sc:Scope}(h1:sc.kind=.function:=by rfl)(h2:sc.isCoroutine=false:=by rfl)(h3:sc.isGenerator=false:=by rfl)(h4:N.Nodup:=by decide +kernel)(h5:N.take ps.length=ps:=by rfl)(h6:∀x∈ps,sc.names.lookup x=some .local\/sc.names.lookup x=some .cell:=by decide +kernel)(h7:∀y∈sc.names,y.2≠.free:=by decide +kernel):aO N ps sc:=⟨h1,h2,h3,h4,h5,h6,h7⟩
theorem aJ {X:Cx}{x:Str}{k m:Nat}{ps:List Str}{sp:Sp}{e:Expr}{es:List Expr}{t:TA}{p pos:Pos}(o:Own X.prog X.w X.K X.mg X.base x k ps sp)(hr:cZ m X.A)(ha:PA X (e::es) t)(hk:k<=m:=by decide)(hg:Gl X x:=by rfl)
  (hdb:(x == ("__debug__" : Str))=false:=by decide) (he:starEach (e::es) X.env=(false,eval e X.env)::starEach es X.env:=by rfl) (hpl:(backTo pos (starEach es X.env)).any (·.1)=false:=by rfl):PE X (.Call (.Name x p) (e::es) [] pos) (yH sp [] E0 t):=Fi o (hr.mono hk) hg ha hdb he hpl
theorem aX {X:Cx}{i:Nat}{x:Str}{e:Expr}{te:TE}{pos pos':Pos}(hN:X.N.Nodup)(he:PE X e te)(hi:X.N[i]?=some x:=by rfl)(hx:Loc X.env.scope x:=by first | exact Or.inl rfl | exact IG rfl)(hs:swapsWith e (some (.Name x pos')) pos.line X.env=pure false:=by rfl)(hf:X.fn x=true\/X.env.scope.names.lookup x=some .local:=by first | exact .inl rfl | exact .inr rfl | assumption) :
  PS X (.Assign [.Name x pos'] e pos) (yy te (om i)):=EN hN hi hx he hs hf
theorem aB {X:Cx}{i:Nat}{x:Str}{pos:Pos}(hN:X.N.Nodup)(hi:X.N[i]?=some x:=by rfl)(hx:Loc X.env.scope x:=by first | exact Or.inl rfl | exact IG rfl)(hf:X.fn x=true\/X.env.scope.names.lookup x=some .local:=by first | exact .inl rfl | exact .inr rfl | assumption):PG X (.Name x pos) (om i):=Du hN hi hx hf
theorem aF {X:Cx}{a b:Expr}{ta tb:TE}{pos:Pos}{r:R2}(hr:xB X r)(ha:PE X a ta)(hb:PE X b tb)(hs:xA b:=by exact fun _ _=>rfl):PE X (.Subscript a b pos) (zH r ta tb):=Gm hr ha hb hs
theorem aH {X:Cx}{e1:Expr}{t1:TE}(h1:PE X e1 t1)(s1:starEach [e1] X.env=(false,eval e1 X.env)::starEach [] X.env:=by rfl):PA X [e1] (gu t1 lR):=(bC h1 cW s1)
theorem aI {X:Cx}{e1 e2:Expr}{t1 t2:TE}(h1:PE X e1 t1)(h2:PE X e2 t2)(s1:starEach [e1,e2] X.env=(false,eval e1 X.env)::starEach [e2] X.env:=by rfl)(s2:starEach [e2] X.env=(false,eval e2 X.env)::starEach [] X.env:=by rfl):PA X [e1,e2] (gu t1 (gu t2 lR)):=(bC h1 (bC h2 cW s2) s1)
theorem fb {X:Cx}{e1 e2 e3:Expr}{t1 t2 t3:TE}(h1:PE X e1 t1)(h2:PE X e2 t2)(h3:PE X e3 t3)(s1:starEach [e1,e2,e3] X.env=(false,eval e1 X.env)::starEach [e2,e3] X.env:=by rfl)(s2:starEach [e2,e3] X.env=(false,eval e2 X.env)::starEach [e3] X.env:=by rfl)(s3:starEach [e3] X.env=(false,eval e3 X.env)::starEach [] X.env:=by rfl):PA X [e1,e2,e3] (gu t1 (gu t2 (gu t3 lR))):=(bC h1 (bC h2 (bC h3 cW s3) s2) s1)
theorem wo {X:Cx}{e1 e2 e3 e4:Expr}{t1 t2 t3 t4:TE}(h1:PE X e1 t1)(h2:PE X e2 t2)(h3:PE X e3 t3)(h4:PE X e4 t4)(s1:starEach [e1,e2,e3,e4] X.env=(false,eval e1 X.env)::starEach [e2,e3,e4] X.env:=by rfl)(s2:starEach [e2,e3,e4] X.env=(false,eval e2 X.env)::starEach [e3,e4] X.env:=by rfl)(s3:starEach [e3,e4] X.env=(false,eval e3 X.env)::starEach [e4] X.env:=by rfl)(s4:starEach [e4] X.env=(false,eval e4 X.env)::starEach [] X.env:=by rfl):PA X [e1,e2,e3,e4] (gu t1 (gu t2 (gu t3 (gu t4 lR)))):=(bC h1 (bC h2 (bC h3 (bC h4 cW s4) s3) s2) s1)
theorem FT (p:Nat):(e6 (.go p)).canLay0=true:=dq _ fun y hy=>by
 rcases Ii.mp hy with rfl | hy
 ·decide +kernel
 ·rw [Il.mp hy];rfl
theorem Eu {b:Bool}{x:Str}{n:Int}{p q:Nat}(h:(PyData.str x).canLay0=true):(e6 (.cm b x n p q)).canLay0=true:=dq _ fun y hy=>by
 rcases Ii.mp hy with rfl | hy
 ·cases b <;> decide +kernel
 rcases Ii.mp hy with rfl | hy
 ·exact h
 rcases Ii.mp hy with rfl | hy
 ·rfl
 rcases Ii.mp hy with rfl | hy
 ·rfl
 ·rw [Il.mp hy];rfl
theorem wq {b:Bool}{x:Str}{n:Int}{p q:Nat}(h:(e6 (.cm b x n p q)).canLay0=true):(PyData.str x).canLay0=true:=by
 have h:((PyData.str (wT b)).canLay0&&((PyData.str x).canLay0&&_))=true:=h
 rw [Ja,Ja] at h
 exact h.2.1
theorem aR.Dk {H:Hp}:∀(n:Nat) {xs:List V} {ds:List PyData},aR H xs ds->aR H (xs.drop n) (ds.drop n)
 | 0,_,_,h=>h
 | n+1,_,_,.nil=>.nil
 | n+1,_,_,.cons _ t=>aR.Dk n t
theorem aR.Dl {H:Hp}:∀(n:Nat) {xs:List V} {ds:List PyData},aR H xs ds->aR H (xs.take n) (ds.take n)
 | 0,_,_,h=>.nil
 | n+1,_,_,.nil=>.nil
 | n+1,_,_,.cons h t=>.cons h (aR.Dl n t)
theorem aR.FU {H:Hp}{ys:List V}{es:List PyData}(g:aR H ys es):∀{xs:List V} {ds:List PyData},aR H xs ds->aR H (xs++ys) (ds++es)
 | _,_,.nil=>g
 | _,_,.cons h t=>.cons h (aR.FU g t)
theorem Ew {qs:List Piece}{k:Nat}{p:Piece}(h:jj qs)(hp:(PyData.tuple (p.1.map cn)).canLay0=true/\(e6 p.2).canLay0=true):jj (qs.set k p):=fun q hq=>by
 rcases Ky hq with hq | rfl
 ·exact h q hq
 ·exact hp
theorem wu {H:Hp}:∀{vs:List V} {ds:List PyData} {cs:List Cp},aR H vs ds->Paired (fun d c=>CD c d) ds cs->j0 H vs (cs.map fw)
 | _,_,_,.nil,.nil=>.nil
 | _,_,_,.cons h t,.cons g t'=>by
  refine .cons ?_ (wu t t')
  obtain⟨fd,hf,rfl⟩:=g
  obtain⟨pa,pvs,rfl,hpm,rpv⟩:=aL.bF h
  obtain⟨y1,t1,rfl,q1,rpv⟩:=rpv.cons_inv
  obtain⟨y2,t2,rfl,q2,rpv⟩:=rpv.cons_inv
  have z:=rpv.nil_inv
  subst z
  rw [q1.int_inv] at hpm
  exact⟨pa,y2,rfl,hpm,hf.fv q2⟩
inductive ux  (vs:List V) (H:Hp) (Q:VK) (_:XK):Prop
 | mk (d e:Addr) (T U:Str->Sx) (m:Nat) (_:vs=[.ref d,.ref e]) (_:LT H d T m) (_:LT H e U m) (_:∀b H',(b=true↔∀x,jr (U x) (T x)=true)->ae H H'->Q (.bl b) H')
inductive yj  (vs:List V) (H:Hp) (Q:VK) (_:XK):Prop
 | mk (d p:Addr) (T:Str->Sx) (m:Nat) (ws:List V) (ds:List cN) (pool:List Str) (_:vs=[.ref d,.ref p]) (_:LT H d T m) (_:H p=some (.tup ws)) (_:aR H ws (ds.map cn)) (_:m<=60) (_:m=pool.length) (_:cM pool T) (_:(∀e∈ds,cL pool e)) (_:∀d' H',LT H' d' (bp T ds) m->ae H H'->Q (.ref d') H')
section
variable {X:Cx}{pins:List (Addr×Obj)}{Ic : List (Option V)}{H H':Hp}{s:Shared}{h':Heap}
def sU (K:Ih)(a b:Addr):It :=
 ⟨fun i H=>∃xs ys x y,aN K H a xs/\aN K H b ys/\xs[i]?=some x/\ys[i]?=some y,
  fun i H v H'=>∃t x y,v=.ref t/\H t=none/\H' = upd H t (.tup [x,y])/\∀xs ys,aN K H a xs->aN K H b ys->xs[i]?=some x/\ys[i]?=some y,
  fun i H=>∃xs ys,aN K H a xs/\aN K H b ys/\(xs.length<=i\/ys.length<=i)⟩
theorem AS {P:Program}{w:World}{K:Ih}{elts:List Expr}{kk:Nat}{pos:Pos}(a b z p q j k:Addr)(D:ZipApart z p q j k a b) :
  Turn P w K (.Tuple elts kk pos) (sU K a b) [z,p,q,j,k] z (fun i h=>IsZip h z p q .none/\IsPair h p (.ref j) (.ref k)/\(∃u v,IsPair h q u v)/\h.IsListIter j a i/\h.IsListIter k b i) where
 mem:=by simp
 obj:=fun i h st c hc=>by
  obtain⟨gz,gp,⟨u,v,gq⟩,⟨oj,ej,cj,dj⟩,⟨ok,ek,ck,dk⟩⟩:=st
  simp only [Ii,IY,or_false] at hc
  rcases hc with rfl | rfl | rfl | rfl | rfl
  ·exact⟨_,gz,fun v e=>by cases e⟩
  ·exact⟨_,gp,fun v e=>by cases e⟩
  ·exact⟨_,gq,fun v e=>by cases e⟩
  ·exact⟨oj,ej,fun v e=>by rw [dj] at e;cases e⟩
  ·exact⟨ok,ek,fun v e=>by rw [dk] at e;cases e⟩
 keep:=fun i h g st kp=>by
  obtain⟨gz,gp,⟨u,v,gq⟩,⟨oj,ej,rj⟩,⟨ok,ek,rk⟩⟩:=st
  exact⟨kp z (by simp) _ gz,kp p (by simp) _ gp,⟨u,v,kp q (by simp) _ gq⟩,⟨oj,kp j (by simp) _ ej,rj⟩,⟨ok,kp k (by simp) _ ek,rk⟩⟩
 item:=by
  intro X hP hw hK hc i pins s Ic H E I hf st hg
  subst hP hw hK
  obtain⟨gz,gp,⟨u,v,gq⟩,gj,gk⟩:=st
  obtain⟨xs,ys,x,y,ha,hb,hx,hy⟩:=hg
  obtain⟨is,ra,pa,_⟩:=I.list ha
  obtain⟨js,rb,pb,_⟩:=I.list hb
  obtain⟨xv,hxv,rx⟩:=ra.get hx
  obtain⟨yv,hyv,ry⟩:=rb.get hy
  have sz:∀c∈[z,p,q,j,k],c≠s.heap.objs.size:=fun c hc e=>by
   subst e
   simp only [Ii,IY,or_false] at hc
   rcases hc with e | e | e | e | e
   ·exact absurd (Ik gz) (by rw [<-e];exact IJ _)
   ·exact absurd (Ik gp) (by rw [<-e];exact IJ _)
   ·exact absurd (Ik gq) (by rw [<-e];exact IJ _)
   ·obtain⟨oj,ej,_⟩:=gj
    exact absurd (Ik ej) (by rw [<-e];exact IJ _)
   ·obtain⟨ok,ek,_⟩:=gk
    exact absurd (Ik ek) (by rw [<-e];exact IJ _)
  refine wpAny_pyNext_zip_item D gz gp gq gj gk pa.isList pb.isList (x:=xv) (y:=yv) (by simpa using hxv) (by simpa using hyv) fun g a1 a2 a3 a4 a5 a6 hk=>?_
  refine⟨.ref s.heap.objs.size,rfl,Lz a1 fun g' gz' sb=>?_⟩
  have fr:=I.aW.fresh (a:=s.heap.objs.size) (Ij _)
  have I1:Inv X pins Ic (upd H s.heap.objs.size (.tup [x,y])) { s with heap:=s.heap.push { cls:=.type "tuple",data:=.seq #[xv,yv] },toks:=s.toks } :=
   I.laid (fun _ _ e=>Im _ e) (Ij _) ⟨by show 2<=sizeLine;decide,[xv,yv],.cons rx (.cons ry .nil),by first | exact IsTup.new _ _ | exact⟨_,Ip _ rfl,rfl,_,rfl,rfl⟩⟩
  have f1:∀c∈[z,p,q,j,k],hX X pins (upd H s.heap.objs.size (.tup [x,y])) c:=fun c hc=>by
   obtain⟨f0,fr'⟩:=hf c hc
   exact⟨by rw [ao (sz c hc)];exact f0,fr'⟩
  have I2:Inv X pins Ic (upd H s.heap.objs.size (.tup [x,y])) { s with heap:=g',toks:=s.toks }:=Inv.iH (s:={ s with heap:=s.heap.push { cls:=.type "tuple",data:=.seq #[xv,yv] },toks:=s.toks }) (fp:=[z,p,q,j,k]) (h':=g') (t':=s.toks) I1 (fun c o hc e=>by
   simp only [Ii,IY,or_false,not_or] at hc
   refine sb.extBut _ _ hc.1 ?_
   rcases KL e with ⟨rfl,rfl⟩ | e
   ·exact a5
   ·exact hk c o hc.1 hc.2.2.1 hc.2.2.2.1 hc.2.2.2.2 e) f1
  refine⟨.ref s.heap.objs.size,_,I2,rfl,⟨_,x,y,rfl,fr,rfl,fun xs' ys' h1 h2=>?_⟩,⟨gz',sb.extBut _ _ D.TIz (hk _ _ D.TIz D.TITO D.TIi1 D.TIi2 gp),⟨xv,yv,sb.extBut _ _ D.TOz a2⟩,a3.extBut sb.extBut D.i1z,a4.extBut sb.extBut D.i2z⟩,fun c hc=>(f1 c hc).1⟩
  rw [I.lO h1 ha,I.lO h2 hb]
  exact⟨hx,hy⟩
 done:=by
  intro X hP hw hK hc i pins s Ic H E I hf st hg
  subst hP hw hK
  obtain⟨gz,gp,⟨u,v,gq⟩,gj,gk⟩:=st
  obtain⟨xs,ys,ha,hb,hl⟩:=hg
  obtain⟨is,ra,pa,_⟩:=I.list ha
  obtain⟨js,rb,pb,_⟩:=I.list hb
  have la:=ra.length
  have lb:=rb.length
  have he:is.toArray[i]?=none\/js.toArray[i]?=none:=by
   rcases hl with h | h
   ·exact .inl (by simp;omega)
   ·exact .inr (by simp;omega)
  exact wpAny_pyNext_zip_end (I.ok.hd hc) D gz gp gq gj gk pa.isList pb.isList he fun g hk=>⟨rfl,I.iH (fp:=[z,p,q,j,k]) (t':=s.toks) (fun c o hc e=>by
   simp only [Ii,IY,or_false,not_or] at hc
   exact hk c o hc.1 hc.2.2.1 hc.2.2.2.1 hc.2.2.2.2 e) hf⟩
 self:=fun _ _ _ _ _ st h=>Lm st.1 h
theorem HE {N a b:Nat}(ha:a<N)(hb:b<N):ZipApart (N+4:Nat) (N+2:Nat) (N+3:Nat) N (N+1:Nat) a b :=
 have D:=GV ha hb
 ⟨D.pz,D.qz,D.jz,D.kz,D.pq,D.pj,D.pk,D.qj,D.qk,D.jk,D.az,D.aq,D.aj,D.ak,D.bz,D.bq,D.bj,D.bk⟩
inductive CF (K:Ih) (R:(It->Hp->Prop)) (vs:List V) (H1:Hp):Prop
 | mk (a b:_) (_:vs=[.ref a,.ref b]) (_:(∃xs,aN K H1 a xs)) (_:(∃ys,aN K H1 b ys)) (_:R (sU K a b) H1)
def GI (K:Ih)(ta:TA):TI:=fun Ic H R=>ta Ic H fun vs H1=>CF K R vs H1
theorem Ex {a b:Expr} {ta:TA} {p pos tp:Pos} {elts:List Expr} {kk:Nat} (hg:Gl X "zip") (hm:X.mg "zip" = none) (ha:PA X [a,b] ta) (hs:starEach [a,b] X.env=[(false,eval a X.env),(false,eval b X.env)]:=by rfl) (hs2:starEach [b] X.env=[(false,eval b X.env)]:=by rfl) :
  PI X (.Tuple elts kk tp) (.Call (.Name "zip" p) [a,b] [] pos) (GI X.K ta):=by
 intro pins s Ic H R I h
 refine Call_ (jF I hg hm zY (PyProof.Rows.callWith_type1 (br (ha pos pins s Ic H _ I h) fun us s1 ⟨vs,H1,I1,r1,q1⟩=>?_) (by rw [hs,hs2]) (by rw [hs2];rfl)))
 obtain⟨x,y,e,⟨xs,hx⟩,⟨ys,hy⟩,q⟩:=q1
 subst e
 cases r1 with
 | cons r rr =>
  cases rr with
  | cons r' rr =>
   cases rr
   cases r
   cases r'
   obtain⟨is,rx,px,_⟩:=I1.list hx
   obtain⟨js,ry,py,_⟩:=I1.list hy
   have lx:x<s1.heap.objs.size:=px.lt
   have ly:y<s1.heap.objs.size:=py.lt
   refine call_zip_2 px.isList py.isList fun g gz gp gq gj gk _ up=>?_
   refine Lm gz ?_
   have I2:Inv X pins Ic H1 { s1 with heap:=g }:=I1.kept (t':=s1.toks) up
   refine⟨_,[s1.heap.objs.size+4,s1.heap.objs.size+2,s1.heap.objs.size+3,s1.heap.objs.size,s1.heap.objs.size+1],_,sU X.K x y,H1,rfl,I2,AS x y _ _ _ _ _ ?_,⟨gz,gp,⟨_,_,gq⟩,gj,gk⟩,fun c hc=>?_,q⟩
   ·exact HE lx ly
   ·have le:s1.heap.objs.size<=c:=by
     simp only [Ii,IY,or_false] at hc
     rcases hc with rfl | rfl | rfl | rfl | rfl
     ·exact JB _ _
     ·exact JB _ _
     ·exact JB _ _
     ·exact Ij _
     ·exact JB _ _
    exact I1.kB le (I1.aW.fresh le)
end
theorem CG {K:Ih}{a b:Addr}{xs ys:List V}{g:TG}{tb:TS}{D:Ends}{Ic : St}{H:Hp}(h1:xs.length<=ys.length)(Pv:Nat->St->Hp->Prop)(h0:Pv 0 Ic H)(hl:∀i Ic H,i<=xs.length->Pv i Ic H->aN K H a xs/\aN K H b ys)
  (hs:∀i x y Ic H t,xs[i]?=some x->ys[i]?=some y->H t=none->Pv i Ic H->g (.ref t) Ic (upd H t (.tup [x,y])) fun σ2 H2=>tb { D with nx:=Pv (i+1),ct:=Pv (i+1),bk:=D.nx } σ2 H2) (hd:∀Ic H,Pv xs.length Ic H->D.nx Ic H) :
  ∃W:Nat->Nat->St->Hp->Prop,(∃m,W 0 m Ic H)/\∀i m Ic H,W i m Ic H ->
   ((sU K a b).stop i H/\D.nx Ic H)\/((sU K a b).go i H/\∃N:St->Hp->Prop,(∀σ' H',N σ' H'->∃m',m' < m/\W (i+1) m' σ' H')/\∀x H',(sU K a b).tJ i H x H'->g x Ic H' fun σ2 H2=>tb { D with nx:=N,ct:=N,bk:=D.nx } σ2 H2):=by
 refine⟨fun i m Ic H=>m=xs.length-i/\i<=xs.length/\Pv i Ic H,⟨xs.length,by simp,IF _,h0⟩,?_⟩
 rintro i m Ic H ⟨rfl,hi,p⟩
 obtain⟨qa,qb⟩:=hl i Ic H hi p
 by_cases hlt:i<xs.length
 ·refine .inr ⟨⟨xs,ys,xs[i],ys[i]'(by omega),qa,qb,by simp [hlt],by simp [show i<ys.length by omega]⟩,Pv (i+1),fun σ' H' p'=>⟨xs.length-(i+1),by omega,rfl,hlt,p'⟩,fun v H' y=>?_⟩
  obtain⟨t,x,y,rfl,ht,rfl,h⟩:=y
  obtain⟨e1,e2⟩:=h xs ys qa qb
  exact hs i x y Ic H t e1 e2 ht p
 ·have e:i=xs.length:=by omega
  subst e
  exact .inl ⟨⟨xs,ys,qa,qb,.inl (Ij _)⟩,hd Ic H p⟩
abbrev Ld:=Option Bool×Nat×(Str->Sx)
def vB:Option Bool->V
 | none=>.aT
 | some b=>.bl b
def oH (T:Str->Sx):End->List Ld
 | .stop=>[]
 | .go p=>[(none,p,T)]
 | .cm b x n p r=>[true,false].filterMap fun side=>(de T b x n side).map fun s=>(some side,(if side=true then p else r),cb T x s)
theorem zj {T:Str->Sx}{b:Bool}{x:Str}{n:Int}{p r i:Nat}{side:Bool}(h:([true,false]:List Bool)[i]?=some side) :
  (([true,false]:List Bool).take (i+1)).filterMap (fun side=>(de T b x n side).map fun s=>((some side,(if side=true then p else r),cb T x s):Ld))=(([true,false]:List Bool).take i).filterMap (fun side=>(de T b x n side).map fun s=>((some side,(if side=true then p else r),cb T x s):Ld))++((de T b x n side).map fun s=>((some side,(if side=true then p else r),cb T x s):Ld)).toList:=by
 rw [IP,h,List.filterMap_append]
 cases z:de T b x n side with
 | none=>simp [z]
 | some s=>simp [z]
def HX (m:Nat)(H:Hp)(v:V)(l:Ld):Prop:=∃q d,v=.ref q/\H q=some (.tup [vB l.1,.int (l.2.1:Nat),.ref d])/\LT H d l.2.2 m
abbrev iB (m:Nat)(H:Hp)(vs:List V)(ls:List Ld):Prop:=Paired (HX m H) vs ls
theorem iB.same {m:Nat}{H H':Hp}(s:ae H H'):∀{vs:List V} {ls:List Ld},iB m H vs ls->iB m H' vs ls
 | _,_,.nil=>.nil
 | _,_,.cons ⟨q,d,e,h1,h2⟩ t=>.cons ⟨q,d,e,s _ _ h1,h2.same s⟩ (iB.same s t)
theorem iB.put {m:Nat}{H:Hp}{l:Addr}{xs:List V}{o:HO}(hl:H l=some (.lst xs)):∀{vs:List V} {ls:List Ld},iB m H vs ls->iB m (upd H l o) vs ls
 | _,_,.nil=>.nil
 | _,_,.cons ⟨q,d,e,h1,h2⟩ t=>.cons ⟨q,d,e,by rw [ao (bJ h1 hl (by intro z;cases z))];exact h1,h2.put hl⟩ (iB.put hl t)
inductive uy  (vs:List V) (H:Hp) (Q:VK) (_:XK):Prop
 | mk (d ea:Addr) (T:Str->Sx) (e:End) (m:Nat) (_:vs=[.ref d,.ref ea]) (_:LT H d T m) (_:m<=60) (_:(∀x,o3 (T x).1 (T x).2)) (_:H ea=some (.tup (dm e))) (_:∀(l:Addr) (vs:List V) (H':Hp),H' l=some (.lst vs)->iB (m+1) H' vs (oH T e)->ae H H'->Q (.ref l) H')
theorem AU {T:Str->Sx}{e:End}:(oH T e).length<=2:=by
 cases e with
 | stop=>exact IF _
 | go p=>exact Jl 1
 | cm b x n p r=>exact List.length_filterMap_le _ _
theorem yk {T:Str->Sx}{e:End}:(oH T e).map (·.2)=cx T e:=by
 cases e with
 | stop=>rfl
 | go p=>rfl
 | cm b x n p r =>
  unfold oH cx iN bH
  cases h1:de T b x n true <;> cases h2:de T b x n false <;> simp [h1,h2]
section
variable (ps:List Piece)
def HY (p:Nat):Nat:=match ps[p]? with
 | some ([],.go q)=>q
 | _=>p
def sq (p:Nat):Nat->Nat
 | 0=>p
 | i+1=>HY ps (sq p i)
end
section
variable {ps:List Piece}
end
section
variable {ps:List Piece}{st:Nat->Nat}
end
section
variable {ps:List Piece}{G:List Nat}
end
inductive ik (P:Program) (w:World) (C:Addr) (vs:List V) (H:Hp) (Q:VK) (_:XK):Prop
 | mk (plv:V) (ps:List Piece) (xs:List Str) (most:Nat) (_:vs=[plv,.int (most:Nat)]) (_:aL H plv (bK ps)) (_:cI xs 12 ps) (_:(∀x∈xs,eG x)) (_:xs.length<=60) (_:0<ps.length) (_:ps.length<=60) (_:1<=most) (_:most<=300) (_:∀(v:V) (ds:List PyData) (H':Hp),Paired (fun d c=>CD c d) ds (dt ps most).1->aL H' v (.tuple [.tuple ((dt ps most).2.map bO),.tuple ds])->ae H H'->Q v H')
theorem zk {p:Piece}(h:(PyData.tuple (p.1.map cn)).canLay0=true/\(e6 p.2).canLay0=true):(bO p).canLay0=true:=by
 show ((PyData.tuple (p.1.map cn)).canLay0&&((e6 p.2).canLay0&&true))=true
 rw [h.1,h.2]
 rfl
def wx (c:Pp)(k:Nat)(U:Str->Sx):Prop:=c.1=(k:Int)/\∀x,jr (U x) (c.2 x)=true
def lF:Option Nat->V
 | none=>.aT
 | some n=>.int (n:Nat)
def FM (paper:List Pp)(ld:Nat×(Str->Sx)):Option Nat->Prop
 | none=>∀c∈paper,¬wx c ld.1 ld.2
 | some i=>(∃c,paper[i]?=some c/\wx c ld.1 ld.2)/\∀(j:Nat) (c:Pp),j<i->paper[j]?=some c->¬wx c ld.1 ld.2
theorem FM.one {paper:List Pp}{ld:Nat×(Str->Sx)}{o o':Option Nat}(h:FM paper ld o)(h':FM paper ld o'):o=o':=by
 cases o with
 | none =>
  cases o' with
  | none=>rfl
  | some j =>
   obtain⟨⟨c,h1,h2⟩,_⟩:=h'
   exact absurd h2 (h c (IB h1))
 | some i =>
  obtain⟨⟨c,h1,h2⟩,h3⟩:=h
  cases o' with
  | none=>exact absurd h2 (h' c (IB h1))
  | some j =>
   obtain⟨⟨c',g1,g2⟩,g3⟩:=h'
   rcases Nat.lt_trichotomy i j with z | z | z
   ·exact absurd h2 (g3 i c z h1)
   ·rw [z]
   ·exact absurd g2 (h3 j c' z g1)
def gS (paper:List Pp)(T:Str->Sx)(e:End)(o:Option End):Prop:=∃os:List (Option Nat),Paired (FM paper) (cx T e) os/\((none∈os/\o=none)\/(none∉os/\o=some (gG e (os.filterMap id))))
theorem mj {α β : Type}{F:α->β->Prop}(u:∀a b b',F a b->F a b'->b=b'):∀{xs:List α} {ys ys':List β},Paired F xs ys->Paired F xs ys'->ys=ys'
 | _,_,_,.nil,.nil=>rfl
 | _,_,_,.cons h t,.cons h' t'=>by rw [u _ _ _ h h',mj u t t']
theorem gS.one {paper:List Pp}{T:Str->Sx}{e:End}{o o':Option End}(h:gS paper T e o)(h':gS paper T e o'):o=o':=by
 obtain⟨os,h1,h2⟩:=h
 obtain⟨os',g1,g2⟩:=h'
 obtain rfl:=mj (F:=FM paper) (fun _ _ _=>FM.one) h1 g1
 rcases h2 with ⟨a,b⟩ | ⟨a,b⟩ <;> rcases g2 with ⟨c,d⟩ | ⟨c,d⟩
 ·rw [b,d]
 ·exact absurd a c
 ·exact absurd c a
 ·rw [b,d]
theorem all_some {os:List (Option Nat)}(h:none∉os):∃ns:List Nat,os=ns.map some/\os.filterMap id=ns:=by
 induction os with
 | nil=>exact⟨[],rfl,rfl⟩
 | cons o os ih =>
  obtain⟨ns,h1,h2⟩:=ih fun z=>h (Iz _ z)
  cases o with
  | none=>exact absurd (Iy ..) h
  | some n=>exact⟨n::ns,by rw [h1];rfl,by rw [JO];show n::os.filterMap id=_;rw [h2]⟩
inductive rJ  (vs:List V) (H:Hp) (Q:VK) (_:XK):Prop
 | mk (lv:V) (pa:Addr) (us:List V) (paper:List Pp) (ld:Nat×(Str->Sx)) (_:vs=[lv,.ref pa]) (_:PV H lv ld) (_:H pa=some (.tup us)) (_:j0 H us paper) (_:(∀c∈paper,jX c.2 63)) (_:∀(o:Option Nat) H',FM paper ld o->ae H H'->Q (lF o) H')
inductive rK  (vs:List V) (H:Hp) (Q:VK) (_:XK):Prop
 | mk (fv:V) (pc da ea pa:Addr) (wd us:List V) (ds:List cN) (e:End) (paper:List Pp) (T:Str->Sx) (xs:List Str) (_:vs=[fv,.ref pc,.ref pa]) (_:FV H fv T) (_:H pc=some (.tup [.ref da,.ref ea])) (_:H da=some (.tup wd)) (_:aR H wd (ds.map cn)) (_:H ea=some (.tup (dm e))) (_:H pa=some (.tup us)) (_:j0 H us paper) (_:cM xs T) (_:(∀d∈ds,cL xs d)) (_:ds.length<=12) (_:xs.length<=50) (_:(∀c∈paper,jX c.2 63)) (_:∀(v:V) (o:Option End) H',gS paper (bp T ds) e o->(o=none->v=.aT)->(∀e',o=some e'->∃t ea',v=.ref t/\H' t=some (.tup [.ref da,.ref ea'])/\H' ea' = some (.tup (dm e')))->ae H H'->Q v H')
inductive pC  (vs:List V) (H:Hp) (Q:VK) (_:XK):Prop
 | mk (plv pv:V) (ps:List Piece) (p:Piece) (k:Nat) (_:vs=[plv,.int (k:Nat),pv]) (_:aL H plv (bK ps)) (_:aL H pv (bO p)) (_:k<ps.length) (_:ps.length<=1000) (_:∀v H',aL H' v (bK (ps.set k p))->ae H H'->Q v H')
theorem rL {xs:List V}{k:Nat}(h:k<=xs.length):dC xs none (some (k:Int))=xs.take k:=by
 unfold dC
 rw [HT.iD,HT.pK]
 simp [Nat.min_eq_left h]
theorem lG {xs:List V}{k:Nat}(h:k<=xs.length):dC xs (some (k:Int)) none=xs.drop k:=by
 unfold dC
 rw [HT.iD,HT.pK,Nat.min_eq_left h]
 rw [KN (by rw [JI];exact Ij _)]
theorem yl {α : Type}{xs:List α}{k:Nat}{x:α}(h:k<xs.length):xs.take k++[x]++xs.drop (k+1)=xs.set k x:=by
 rw [List.set_eq_take_append_cons_drop,if_pos h,Jc]
 rfl
theorem sV:∀os:List (Option Nat),(os.map lF).all h9=true
 | []=>rfl
 | none::os=>by rw [IK,Kk,sV os];rfl
 | some n::os=>by rw [IK,Kk,sV os];rfl
theorem Dm (os:List (Option Nat)):i8 V.aT (os.map lF)=decide (none∈os):=by
 induction os with
 | nil=>rfl
 | cons o os ih =>
  cases o with
  | none=>simp [i8,lF,oZ]
  | some n =>
   have e:i8 V.aT ((some n::os).map lF)=i8 V.aT (os.map lF):=by simp [i8,lF,oZ]
   rw [e,ih]
   simp
inductive Ey (K:Ih) (f:Str) (v:V) (Ic : St) (Q:(St->Hp->Prop)) (x:V) (H2:Hp):Prop
 | mk (a C dx fs:_) (_:x=.ref a) (_:H2 a=some (.ins C dx fs)) (_:jK K C) (_:eD K C f) (_:fs.length<1000) (_:Q Ic (upd H2 a (.ins C dx (cR f v fs))))
def HF (K:Ih)(ta:TE)(f:Str):TG:=fun v Ic H Q=>ta Ic H fun x H2=>Ey K f v Ic Q x H2
theorem rM {X:Cx}{o:Expr}{f:Str}{pos:Pos}{ta:TE}(ha:PE X o ta):PG X (.Attribute o f pos) (HF X.K ta f):=by
 intro pins s Ic H v u Q I r h
 rw [assign_Attribute]
 refine KS (KY (br (ha pins s Ic H _ I h) fun ov s2 ⟨x,H2,I2,rx,a,C,dx,fs,ex,ea,c,n,l,q2⟩=>?_))
 subst ex
 obtain rfl:ov=Value.ref a:=rx
 refine KS (K8 (KS (KY (lQ I2 ea c n l r fun s3 I3=>?_))))
 exact wpAny_release ⟨Ic,_,I3,q2⟩
structure iZ (K:Ih) (D:Addr):Prop where
 cl:jK K D
 kept:eD K D "kept"
 bound:eD K D "bound"
 past:eD K D "past"
 lH:eD K D "copies"
 times:eD K D "times"
section
variable {a b c d e z:V}
def fS (a b c d e:V):List (Str×V):=[("kept",a),("bound",b),("past",c),("copies",d),("times",e)]
theorem ml:(fS a b c d e).lookup ("kept" : Str)=some a:=pN
theorem AV:(fS a b c d e).lookup ("bound" : Str)=some b:=eJ (by decide +kernel) pN
theorem wy:(fS a b c d e).lookup ("past" : Str)=some c:=eJ (by decide +kernel) (eJ (by decide +kernel) pN)
theorem jx:(fS a b c d e).lookup ("copies" : Str)=some d:=eJ (by decide +kernel) (eJ (by decide +kernel) (eJ (by decide +kernel) pN))
theorem uz:(fS a b c d e).lookup ("times" : Str)=some e:=eJ (by decide +kernel) (eJ (by decide +kernel) (eJ (by decide +kernel) (eJ (by decide +kernel) pN)))
theorem CH:cR "kept" z (fS a b c d e)=fS z b c d e:=yT
theorem qe:cR "past" z (fS a b c d e)=fS a b z d e:=fo (by decide +kernel) (fo (by decide +kernel) yT)
theorem zl:cR "copies" z (fS a b c d e)=fS a b c z e:=fo (by decide +kernel) (fo (by decide +kernel) (fo (by decide +kernel) yT))
theorem AW:cR "times" z (fS a b c d e)=fS a b c d z:=fo (by decide +kernel) (fo (by decide +kernel) (fo (by decide +kernel) (fo (by decide +kernel) yT)))
def G3 (a:V):List (Str×V):=[("kept",a)]
def ym (a b:V):List (Str×V):=[("kept",a),("bound",b)]
def G4 (a b c:V):List (Str×V):=[("kept",a),("bound",b),("past",c)]
def G5 (a b c d:V):List (Str×V):=[("kept",a),("bound",b),("past",c),("copies",d)]
theorem GJ:cR "kept" a []=G3 a:=pO
theorem GK:cR "bound" b (G3 a)=ym a b:=fo (by decide +kernel) pO
theorem Dn:cR "past" c (ym a b)=G4 a b c:=fo (by decide +kernel) (fo (by decide +kernel) pO)
theorem GL:cR "copies" d (G4 a b c)=G5 a b c d:=fo (by decide +kernel) (fo (by decide +kernel) (fo (by decide +kernel) pO))
theorem GN:cR "times" e (G5 a b c d)=fS a b c d e:=fo (by decide +kernel) (fo (by decide +kernel) (fo (by decide +kernel) (fo (by decide +kernel) pO)))
theorem CI:(fS a b c d e).lookup ("mend" : Str)=none:=eJ (by decide +kernel) (eJ (by decide +kernel) (eJ (by decide +kernel) (eJ (by decide +kernel) (eJ (by decide +kernel) rfl))))
theorem uO:(fS a b c d e).lookup ("make_anew" : Str)=none:=eJ (by decide +kernel) (eJ (by decide +kernel) (eJ (by decide +kernel) (eJ (by decide +kernel) (eJ (by decide +kernel) rfl))))
end
def j1 (D:Addr)(H:Hp)(kp:Addr)(plv:V)(most:Nat)(ov cv:V)(n:Int):Prop:=∃dx,H kp=some (.ins D dx (fS plv (.int (most:Nat)) ov cv (.int n)))
def cV (kp:Addr)(H H':Hp):Prop:=∀c o,H c=some o->c≠kp->H' c=some o
theorem cV.trans {kp:Addr}{H H1 H2:Hp}(a:cV kp H H1)(b:cV kp H1 H2):cV kp H H2:=fun c o h n=>b c o (a c o h n) n
theorem cV.of_same {kp:Addr}{H H':Hp}(s:ae H H'):cV kp H H':=fun c o e _=>s c o e
theorem cV.put {kp:Addr}{H:Hp}{o:HO}:cV kp H (upd H kp o):=fun c u h n=>by rw [ao n];exact h
theorem cV.av {kp:Addr}{H H':Hp}{C dx:Addr}{fs:List (Str×V)}(b:cV kp H H')(hk:H kp=some (.ins C dx fs)):∀p xs,H p=some (.tup xs)->H' p=some (.tup xs):=fun p xs e=>b p _ e (bJ e hk (by intro z;cases z))
structure il (xs:List Str) (ps:List Piece) (most:Nat):Prop where
 bY:cI xs 12 ps
 fA:∀x∈xs,eG x
 bS:xs.length<=50
 n0:0<ps.length
 pD:ps.length<=60
 m1:1<=most
 m3:most<=300
section
variable (D:Addr)
inductive jd (f:Nat) (vs:List V) (H:Hp) (Q:VK) (_:XK):Prop
 | mk (kp:Addr) (plv ov cv:V) (most:Nat) (n:Int) (_:vs=[.ref kp]) (_:j1 D H kp plv most ov cv n) (_:Q (match f with | 0=>plv | 1=>ov | 2=>cv | _=>.int n) H)
inductive yn  (vs:List V) (H:Hp) (Q:VK) (_:XK):Prop
 | mk (kp dx:Addr) (plv:V) (ps:List Piece) (xs:List Str) (most:Nat) (_:vs=[.ref kp,plv,.int (most:Nat)]) (_:H kp=some (.ins D dx [])) (_:aL H plv (bK ps)) (_:il xs ps most) (_:∀(ov cv:V) (ds:List PyData) H',Paired (fun d c=>CD c d) ds (dt ps most).1->aL H' ov (bK (dt ps most).2)->aL H' cv (.tuple ds)->j1 D H' kp plv most ov cv 1->cV kp H H'->Q .aT H')
inductive yo  (vs:List V) (H:Hp) (Q:VK) (_:XK):Prop
 | mk (kp:Addr) (plv ov0 cv0:V) (ps:List Piece) (xs:List Str) (most:Nat) (n:Int) (_:vs=[.ref kp]) (_:j1 D H kp plv most ov0 cv0 n) (_:aL H plv (bK ps)) (_:il xs ps most) (_:∀(ov cv:V) (ds:List PyData) H',Paired (fun d c=>CD c d) ds (dt ps most).1->aL H' ov (bK (dt ps most).2)->aL H' cv (.tuple ds)->j1 D H' kp plv most ov cv (n+1)->cV kp H H'->Q .aT H')
end
theorem cK:∀{ds:List PyData} {cs:List Cp},Paired (fun d c=>CD c d) ds cs->b0 (.tuple ds)=true
 | _,_,.nil=>rfl
 | _,_,.cons (a:=d) (l₁:=ds) h t=>by
  have h1:=cK t
  show (b0 d&&bX ds)=true
  rw [h.kq,show bX ds=true from h1]
  rfl
def eX:List Piece->List Nat->List Piece->List Piece
 | qs,n::ns,p::ps=>eX (qs.set n p) ns ps
 | qs,_,_=>qs
theorem jy:∀(ns:List Nat) (qs ps:List Piece),(eX qs ns ps).length=qs.length
 | [],qs,ps=>by cases ps <;> rfl
 | n::ns,qs,[]=>rfl
 | n::ns,qs,p::ps=>by show (eX (qs.set n p) ns ps).length=_;rw [jy,Jp]
theorem kH:∀(ns:List Nat) (qs ps:List Piece) (n:Nat) (p:Piece),ns.length=ps.length->eX qs (ns++[n]) (ps++[p])=(eX qs ns ps).set n p
 | [],qs,[],n,p,_=>rfl
 | [],qs,_::_,n,p,h=>nomatch h
 | _::_,qs,[],n,p,h=>nomatch h
 | m::ns,qs,q::ps,n,p,h=>by
  show eX (qs.set m q) (ns++[n]) (ps++[p])=(eX (qs.set m q) ns ps).set n p
  exact kH ns _ ps n p (Nat.succ.inj h)
inductive yq (D:Addr) (vs:List V) (H:Hp) (Q:VK) (_:XK):Prop
 | mk (kp la lb:Addr) (plv ov cv:V) (most:Nat) (n:Int) (ns:List Nat) (pvs:List V) (qs ps':List Piece) (_:vs=[.ref kp,.ref la,.ref lb]) (_:j1 D H kp plv most ov cv n) (_:aL H ov (bK qs)) (_:qs.length<=1000) (_:H la=some (.lst (vN ns))) (_:H lb=some (.lst pvs)) (_:aR H pvs (ps'.map bO)) (_:ns.length=ps'.length) (_:(∀k∈ns,k<qs.length)) (_:∀(ov':V) H',aL H' ov' (bK (eX qs ns ps'))->j1 D H' kp plv most ov' cv n->cV kp H H'->Q .aT H')
def Dp (d:PyData):Prop:=d=.none\/((∃zs,d=.tuple zs)/\d.canLay0=true)
def wz:Value->Bool
 | .none=>true
 | _=>false
section
variable {X:Cx}{pins:List (Addr×Obj)}{Ic : St}{H:Hp}{s:Shared}
theorem FW {A:Around}(I:Inv X pins Ic H s)(hu:A.units+64<cLine){x:V}{u:Value}{d:PyData}(rx:RelV x u)(rd:aL H x d)(h:Dp d):SeqAt.EqAt A s u .none (wz u)/\wz u=decide (d=.none):=by
 obtain⟨bs,rb⟩:=rd.reads I.aW rx
 rcases h with rfl | ⟨⟨zs,rfl⟩,hl⟩
 ·have e:=SeqAt.eqAt_reads .none .none A s u .none bs [] rb .none rfl rfl (by show A.units+min 0 0<cLine;omega)
  cases rb
  exact⟨e,(decide_eq_true rfl).symm⟩
 ·have e:=SeqAt.eqAt_reads (.tuple zs) .none A s u .none bs [] rb .none hl rfl (by show A.units+min _ 0<cLine;omega)
  cases rb
  exact⟨e,(decide_eq_false (fun z=>nomatch z)).symm⟩
inductive FX (K:Ih) (x:V) (y:V) (H:Hp) (Q:VK):Prop
 | mk (p:Addr) (xs:List V) (ds:List PyData) (_:x=.aT) (_:y=.ref p) (_:aN K H p xs) (_:aR H xs ds) (_:(∀e∈ds,Dp e)) (_:Q (.bl (decide (PyData.none∈ds))) H)
theorem Dq {A:Around}(I:Inv X pins Ic H s)(hu:A.units+64<cLine):∀{xs:List V} {us:List Value} {ds:List PyData},Vals xs us->aR H xs ds->(∀e∈ds,Dp e)->(∀u∈us,SeqAt.EqAt A s u .none (wz u))/\us.any wz=decide (PyData.none∈ds)
 | _,_,_,.nil,.nil,_=>⟨(fun u h=>nomatch h),(decide_eq_false (fun z=>nomatch z)).symm⟩
 | _,_,_,.cons r t,.cons rd rt,h=>by
  obtain⟨h1,h2⟩:=FW I hu r rd (h _ (Iy ..))
  obtain⟨g1,g2⟩:=Dq I hu t rt fun e he=>h e (Iz _ he)
  refine⟨fun u hu'=>?_,?_⟩
  ·rcases Ii.mp hu' with rfl | hu'
   ·exact h1
   ·exact g1 u hu'
  ·rw [JQ,g2,h2]
   rename_i d ds
   by_cases z:d=.none
   ·subst z;simp
   ·have:(PyData.none∈d::ds)↔PyData.none∈ds:=by rw [Ii];exact⟨fun q=>q.resolve_left fun w=>z w.symm,.inr⟩
    simp only [this,decide_eq_false z,Bool.false_or]
theorem wA (hu:X.A.units+66<cLine):d5 X (compareOp .In) (FX X.K):=by
 intro pins s Ic H x y v u Q I rx ry h
 obtain⟨p,xs,ds,rfl,rfl,hq,rd,hk,q⟩:=h
 cases ry
 obtain rfl:v=Value.none:=rx
 obtain⟨its,rv,pl,hz⟩:=I.list hq
 have key:=Dq (A:=X.A.in1) I (by first | (rw [Around.in1_units];omega) | omega) rv rd hk
 refine SeqAt.in_listAt wz pl.isList (fun w hw=>key.1 w (by simpa using hw)) ⟨.bl _,H,I,rfl,?_⟩
 rw [show its.toArray.any wz=its.any wz by simp,key.2]
 exact q
end
def ip (cs:List Cp)(k i:Nat):List Nat:=(IZ i).filter fun i=>decide ((cs[i]?.map (·.1))=some k)
theorem wB {cs:List Cp}{k i:Nat}{c:Cp}(hc:cs[i]?=some c)(h:c.1=k):ip cs k (i+1)=ip cs k i++[i]:=by
 unfold ip
 rw [Kz,Jv]
 congr 1
 simp [hc,h]
theorem yr {cs:List Cp}{k i:Nat}{c:Cp}(hc:cs[i]?=some c)(h:¬c.1=k):ip cs k (i+1)=ip cs k i:=by
 unfold ip
 rw [Kz,Jv]
 simp [hc,h]
theorem oJ {cs:List Cp}{k i j:Nat}(h:j∈ip cs k i):j<i/\∃c,cs[j]?=some c/\c.1=k:=by
 unfold ip at h
 obtain⟨h1,h2⟩:=Jf.mp h
 refine⟨Jw.mp h1,?_⟩
 have h2:=of_decide_eq_true h2
 cases e:cs[j]? with
 | none=>rw [e] at h2;cases h2
 | some c=>rw [e] at h2;exact⟨c,rfl,IA.inj h2⟩
theorem j2 {cs:List Cp}{k i:Nat}:(ip cs k i).length<=i:=by
 unfold ip
 exact Ir (Jr _ _) (by rw [J5];exact Ij _)
def cF (cs:List Cp)(k:Nat):List Nat:=(IZ cs.length).filter fun i=>decide ((cs[i]?.map (·.1))=some k)
def lI (cs:List Cp)(p:Piece)(ns:List Nat)(os:List (Option End)):Prop:=Paired (fun (i:Nat) (o:Option End)=>∃c,cs[i]?=some c/\gS (cs.map fw) (bp c.2 p.1) p.2 o) ns os
inductive yt (D:Addr) (vs:List V) (H:Hp) (Q:VK) (_:XK):Prop
 | mk (kp:Addr) (plv ov cv qv:V) (most k:Nat) (n:Int) (ps qs:List Piece) (p:Piece) (cs:List Cp) (ds:List PyData) (xs:List Str) (_:vs=[.ref kp,.int (k:Nat),qv]) (_:j1 D H kp plv most ov cv n) (_:aL H plv (bK ps)) (_:aL H ov (bK qs)) (_:aL H cv (.tuple ds)) (_:Paired (fun d c=>CD c d) ds cs) (_:aL H qv (bO p)) (_:k<ps.length) (_:il xs (ps.set k p) most) (_:(∀c∈cs,cM xs c.2)) (_:cs.length<=qs.length) (_:qs.length<=400) (_:∀os,lI cs p (cF cs k) os->(none∈os->∀(plv' ov' cv':V) (ds':List PyData) H',aL H' plv' (bK (ps.set k p))->Paired (fun d c=>CD c d) ds' (dt (ps.set k p) most).1->aL H' ov' (bK (dt (ps.set k p) most).2)->aL H' cv' (.tuple ds')->j1 D H' kp plv' most ov' cv' (n+1)->cV kp H H'->Q .aT H')/\(∀es:List End,os=es.map some->∀(plv' ov':V) (t:Addr) H',H' t=some (.tup (vN (cF cs k)))->aL H' plv' (bK (ps.set k p))->aL H' ov' (bK (eX qs (cF cs k) (es.map fun e=>(p.1,e))))->j1 D H' kp plv' most ov' cv n->cV kp H H'->Q (.ref t) H'))
def lJ (p:Piece):Option End->PyData
 | none=>.none
 | some e=>bO (p.1,e)
theorem lK (p:Piece):∀os:List (Option End),bX (os.map (lJ p))=true
 | []=>rfl
 | none::os=>by show (true&&bX (os.map (lJ p)))=true;rw [lK p os];rfl
 | some e::os=>by show (b0 (bO (p.1,e))&&bX (os.map (lJ p)))=true;rw [cw,lK p os];rfl
theorem wC {e:End}(h:(e6 e).canLay0=true)(ns:List Nat):(e6 (gG e ns)).canLay0=true:=by
 match ns with
 | []=>cases e <;> exact h
 | [a]=>exact FT a
 | a::b::[] =>
  cases e with
  | stop=>exact h
  | go q=>exact h
  | cm bb x n p q=>exact Eu (wq h)
 | a::b::c::r=>cases e <;> exact h
theorem AX {cs:List Cp}{p:Piece}(hd:(PyData.tuple (p.1.map cn)).canLay0=true)(he:(e6 p.2).canLay0=true){ns:List Nat}{os:List (Option End)}(h:lI cs p ns os):∀d∈os.map (lJ p),Dp d:=fun d hm=>by
 obtain⟨o,ho,rfl⟩:=Iv.mp hm
 cases o with
 | none=>exact .inl rfl
 | some e =>
  obtain⟨j,hj⟩:=Kc ho
  obtain⟨n,_,c,_,os',_,h2⟩:=fL h hj
  have e2:some e=some (gG p.2 (os'.filterMap id)):=by
   rcases h2 with ⟨_,z⟩ | ⟨_,z⟩
   ·cases z
   ·exact z
  have e2:=IA.inj e2
  refine .inr ⟨⟨_,rfl⟩,dq _ fun y hy=>?_⟩
  rcases Ii.mp hy with rfl | hy
  ·exact hd
  ·rw [Il.mp hy,e2];exact wC he _
theorem oM {p:Piece}{os:List (Option End)}:PyData.none∈os.map (lJ p)↔none∈os:=by
 constructor
 ·intro h
  obtain⟨o,ho,e⟩:=Iv.mp h
  cases o with
  | none=>exact ho
  | some e'=>exact absurd e (fun z=>nomatch z)
 ·intro h
  exact Iv.mpr ⟨none,h,rfl⟩
theorem uA {os:List (Option End)}(h:none∉os):∃es:List End,os=es.map some:=by
 induction os with
 | nil=>exact⟨[],rfl⟩
 | cons o os ih =>
  obtain⟨es,h1⟩:=ih fun z=>h (Iz _ z)
  cases o with
  | none=>exact absurd (Iy ..) h
  | some n=>exact⟨n::es,by rw [h1];rfl⟩
def nR (paper:List Pp)(ld:Nat×(Str->Sx))(j:Nat):Prop:=∃c,paper[j]?=some c/\wx c ld.1 ld.2
def dP (paper:List Pp)(w i:Nat):List Nat:=(IZ i).filter fun j=>decide ((paper[j]?.map (·.1))=some (w:Int))
open Classical in
noncomputable def fP (paper:List Pp) (ld:Nat×(Str->Sx)) (l:List Nat):List Nat:=l.filter fun j=>decide (nR paper ld j)
theorem CJ {paper:List Pp}{w i:Nat}{c:Pp}(hc:paper[i]?=some c)(h:c.1=(w:Int)):dP paper w (i+1)=dP paper w i++[i]:=by
 unfold dP
 rw [Kz,Jv]
 congr 1
 simp [hc,h]
theorem Ez {paper:List Pp}{w i:Nat}{c:Pp}(hc:paper[i]?=some c)(h:¬c.1=(w:Int)):dP paper w (i+1)=dP paper w i:=by
 unfold dP
 rw [Kz,Jv]
 simp [hc,h]
theorem wF {paper:List Pp}{w i:Nat}:(dP paper w i).length<=i:=by
 unfold dP
 exact Ir (Jr _ _) (by rw [J5];exact Ij _)
theorem EA {paper:List Pp}{w i j:Nat}(h:j∈dP paper w i):j<i/\∃c,paper[j]?=some c/\c.1=(w:Int):=by
 unfold dP at h
 obtain⟨h1,h2⟩:=Jf.mp h
 refine⟨Jw.mp h1,?_⟩
 have h2:=of_decide_eq_true h2
 cases e:paper[j]? with
 | none=>rw [e] at h2;cases h2
 | some c=>rw [e] at h2;exact⟨c,rfl,IA.inj h2⟩
theorem CK {paper:List Pp}{ld:Nat×(Str->Sx)}{l:List Nat}{i j:Nat}(hj:l[i]?=some j)(h:nR paper ld j):fP paper ld (l.take (i+1))=fP paper ld (l.take i)++[j]:=by
 unfold fP
 rw [take1 hj,Jv]
 congr 1
 simp [h]
theorem EB {paper:List Pp}{ld:Nat×(Str->Sx)}{l:List Nat}{i j:Nat}(hj:l[i]?=some j)(h:¬nR paper ld j):fP paper ld (l.take (i+1))=fP paper ld (l.take i):=by
 unfold fP
 rw [take1 hj,Jv]
 simp [h]
theorem CL {paper:List Pp}{ld:Nat×(Str->Sx)}{l:List Nat}:(fP paper ld l).length<=l.length:=by
 unfold fP
 exact Jr _ _
open Classical in
theorem sW {paper:List Pp}{ld:Nat×(Str->Sx)}{j:Nat}:j∈fP paper ld (dP paper ld.1 paper.length)↔nR paper ld j:=by
 constructor
 ·intro h
  unfold fP at h
  exact of_decide_eq_true (Jf.mp h).2
 ·intro h
  obtain⟨c,h1,h2⟩:=id h
  unfold fP dP
  refine Jf.mpr ⟨Jf.mpr ⟨Jw.mpr (IE.mp h1).1,?_⟩,decide_eq_true h⟩
  rw [h1]
  exact decide_eq_true (by show some c.1=_;rw [h2.1])
theorem wG {paper:List Pp}{ld:Nat×(Str->Sx)}(h:fP paper ld (dP paper ld.1 paper.length)=[]):FM paper ld none:=fun c hc hm=>by
 obtain⟨j,hj⟩:=Kc hc
 have:=(sW (paper:=paper) (ld:=ld) (j:=j)).mpr ⟨c,hj,hm⟩
 rw [h] at this
 cases this
theorem uB {paper:List Pp}{ld:Nat×(Str->Sx)}{a:Nat}{r:List Nat}(h:fP paper ld (dP paper ld.1 paper.length)=a::r):FM paper ld (some a):=by
 have ha:nR paper ld a:=sW.mp (by rw [h];exact Iy ..)
 obtain⟨c,h1,h2⟩:=ha
 refine⟨⟨c,h1,h2⟩,fun j c' hj hc' hm=>?_⟩
 have hjm:=(sW (paper:=paper) (ld:=ld) (j:=j)).mpr ⟨c',hc',hm⟩
 have pw:(fP paper ld (dP paper ld.1 paper.length)).Pairwise (· < ·):=by
  unfold fP dP
  exact Jq.sublist (List.filter_sublist) (Jq.sublist (List.filter_sublist) List.pairwise_lt_range)
 rw [h] at pw hjm
 rcases Ii.mp hjm with z | z
 ·omega
 ·have:=(Ka.mp pw).1 j z
  omega
theorem FM.ex (paper:List Pp)(ld:Nat×(Str->Sx)):∃o,FM paper ld o:=by
 cases h:fP paper ld (dP paper ld.1 paper.length) with
 | nil=>exact⟨none,wG h⟩
 | cons a r=>exact⟨some a,uB h⟩
theorem uC {α β : Type}{F:α->β->Prop}(h:∀a,∃b,F a b):∀xs:List α,∃ys:List β,Paired F xs ys
 | []=>⟨[],.nil⟩
 | x::xs=>by
  obtain⟨y,hy⟩:=h x
  obtain⟨ys,hys⟩:=uC h xs
  exact⟨y::ys,.cons hy hys⟩
theorem gS.none_ {paper:List Pp}{T:Str->Sx}{e:End}{i:Nat}{ld:Nat×(Str->Sx)}(hi:(cx T e)[i]?=some ld)(h:FM paper ld none):gS paper T e none:=by
 obtain⟨os,ho⟩:=uC (FM.ex paper) (cx T e)
 refine⟨os,ho,.inl ⟨?_,rfl⟩⟩
 obtain⟨hl⟩:=IE.mp hi
 have hlo:i<os.length:=by rw [<-cG ho];exact hl
 have e1:os[i]?=some os[i]:=by simp [hlo]
 obtain⟨a,ha,hf⟩:=fL ho e1
 rw [hi] at ha
 cases ha
 have:=FM.one hf h
 exact IB (by rw [e1,this])
theorem gS.lT {paper:List Pp}{T:Str->Sx}{e:End}{ns:List Nat}(h:Paired (FM paper) (cx T e) (ns.map some)):gS paper T e (some (gG e ns)):=by
 refine⟨ns.map some,h,.inr ⟨fun z=>?_,?_⟩⟩
 ·obtain⟨_,_,z⟩:=Iv.mp z
  cases z
 ·congr 2
  rw [Kj]
  show ns=ns.filterMap some
  rw [List.filterMap_some]
inductive uD  (vs:List V) (H:Hp) (Q:VK) (_:XK):Prop
 | mk (fv:V) (pc da ea pa:Addr) (wd us:List V) (ds:List cN) (e:End) (paper:List Pp) (T:Str->Sx) (xs:List Str) (_:vs=[.ref pc,.ref pa,fv]) (_:FV H fv T) (_:H pc=some (.tup [.ref da,.ref ea])) (_:H da=some (.tup wd)) (_:aR H wd (ds.map cn)) (_:H ea=some (.tup (dm e))) (_:H pa=some (.tup us)) (_:j0 H us paper) (_:cM xs T) (_:(∀d∈ds,cL xs d)) (_:xs.length<=50) (_:(∀c∈paper,cM xs c.2)) (_:paper.length<=400) (_:∀(v:V) (o:Option End) H',gS paper (bp T ds) e o->(o=none->v=.aT)->(∀e',o=some e'->∃t ea',v=.ref t/\H' t=some (.tup [.ref da,.ref ea'])/\H' ea' = some (.tup (dm e')))->ae H H'->Q v H')
inductive yu  (vs:List V) (H:Hp) (Q:VK) (_:XK):Prop
 | mk (kt:Addr) (plv ov cv qv:V) (most k:Nat) (n:Int) (ps qs:List Piece) (p:Piece) (cs:List Cp) (ds:List PyData) (xs:List Str) (_:vs=[.ref kt,.int (k:Nat),qv]) (_:H kt=some (.tup [plv,.int (most:Nat),ov,cv,.int n])) (_:aL H plv (bK ps)) (_:aL H ov (bK qs)) (_:aL H cv (.tuple ds)) (_:Paired (fun d c=>CD c d) ds cs) (_:aL H qv (bO p)) (_:k<ps.length) (_:il xs (ps.set k p) most) (_:(∀c∈cs,cM xs c.2)) (_:cs.length<=qs.length) (_:qs.length<=400) (_:∀os,lI cs p (cF cs k) os->(none∈os->∀(plv' ov' cv':V) (ds':List PyData) (t r:Addr) H',H' t=some (.tup [.aT,.ref r])->H' r=some (.tup [plv',.int (most:Nat),ov',cv',.int (n+1)])->aL H' plv' (bK (ps.set k p))->Paired (fun d c=>CD c d) ds' (dt (ps.set k p) most).1->aL H' ov' (bK (dt (ps.set k p) most).2)->aL H' cv' (.tuple ds')->ae H H'->Q (.ref t) H')/\(∀es:List End,os=es.map some->∀(plv' ov':V) (t r tn:Addr) H',H' t=some (.tup [.ref tn,.ref r])->H' tn=some (.tup (vN (cF cs k)))->H' r=some (.tup [plv',.int (most:Nat),ov',cv,.int n])->aL H' plv' (bK (ps.set k p))->aL H' ov' (bK (eX qs (cF cs k) (es.map fun e=>(p.1,e))))->ae H H'->Q (.ref t) H'))
theorem cL.mono {xs ys:List Str}(h:∀x∈xs,x∈ys){d:cN}(hd:cL xs d):cL ys d:=by
 cases d with
 | put x n=>exact⟨h x hd.1,hd.2⟩
 | copy x y=>exact⟨h x hd.1,h y hd.2⟩
 | add x n=>exact⟨h x hd.1,hd.2⟩
 | read x=>exact h x hd
 | tell x=>exact h x hd
theorem gx.mono {xs ys:List Str}{c:Nat}(h:∀x∈xs,x∈ys){e:End}(he:gx xs c e):gx ys c e:=by
 cases e with
 | stop=>exact True.intro
 | go p=>exact he
 | cm b x n p q=>exact⟨h x he.1,he.2⟩
inductive uE  (vs:List V) (H:Hp) (Q:VK) (_:XK):Prop
 | mk (b:Addr) (plv:V) (ps:List Piece) (xs:List Str) (_:vs=[.ref b,plv]) (_:dM H b) (_:aL H plv (bK ps)) (_:cI xs 12 ps) (_:(∀x∈xs,eG x)) (_:("abcdefgh" : Str)∈xs) (_:xs.length<=50) (_:0<ps.length) (_:ps.length<=60) (_:∀(v:V) (p:Piece) H',aL H' v (bO p)->(p.1.length<=12/\∀d∈p.1,cL xs d)->gx xs ps.length p.2->dM H' b->Fix b H H'->Q v H')
inductive GO  (x:V) (lo:Option Int) (hi:Option Int) (H:Hp) (Q:VK):Prop
 | mk (a:Addr) (xs:List V) (_:x=.ref a) (_:H a=some (.tup xs)) (_:∀(p:Addr) (H':Hp),H' p=some (.tup (dC xs lo hi))->ae H H'->Q (.ref p) H')
theorem oO {X:Cx}:C3 X GO:=by
 intro pins s Ic H x v vl vu lo hi sl Q I rx hs pl pu h
 obtain⟨a,xs,rfl,ha,q⟩:=h
 refine gZ pins s Ic H _ v vl vu lo hi sl Q I rx hs pl pu ⟨a,xs,rfl,ar.of ha,fun hw=>q a H ?_ (ae.refl H),fun _ p np=>q p _ aa (ae.new np)⟩
 unfold dC
 rw [hw.1,hw.2,List.drop_zero,Nat.sub_zero,II]
 exact ha
theorem EC {xs:List V}{ds:List cN}{H:Hp}{k:Nat}(h:aR H xs (ds.map cn))(hk:k<=xs.length):aR H (dC xs none (some (k:Int))) ((ds.take k).map cn)/\aR H (dC xs (some (k:Int)) none) ((ds.drop k).map cn):=by
 rw [rL hk,lG hk,List.map_take,List.map_drop]
 exact⟨h.Dl k,h.Dk k⟩
theorem lI.one {cs:List Cp}{p:Piece}{ns:List Nat}{os os':List (Option End)}(h:lI cs p ns os)(h':lI cs p ns os'):os=os' :=
 mj (fun i o o' h1 h2=>by
  obtain⟨c,hc,hp⟩:=h1
  obtain⟨c',hc',hp'⟩:=h2
  rw [hc] at hc'
  cases hc'
  exact gS.one hp hp') h h'
theorem il.set {xs:List Str}{ps:List Piece}{most k:Nat}{p:Piece}(h:il xs ps most)(hd:p.1.length<=12/\∀d∈p.1,cL xs d)(he:gx xs ps.length p.2):il xs (ps.set k p) most where
 bY:={
  fe:=fun q hq=>(Ky hq).elim (h.bY.fe q) fun z=>by rw [z];exact hd
  ends:=fun q hq=>by
   rw [Jp]
   exact (Ky hq).elim (h.bY.ends q) fun z=>by rw [z];exact he }
 fA:=h.fA
 bS:=h.bS
 n0:=by rw [Jp];exact h.n0
 pD:=by rw [Jp];exact h.pD
 m1:=h.m1
 m3:=h.m3
inductive mN (cs:List Cp) (qs ps:List Piece) (k m:Nat) (p:Piece) (n:Int) (os:List (Option End)) (dd:PyData) (qs2:List Piece) (cs2:List Cp) (n2:Int):Prop
 | anew (h:none∈os) (h1:dd=.none) (h2:qs2=(dt (ps.set k p) m).2) (h3:cs2=(dt (ps.set k p) m).1) (h4:n2=n+1)
 | nS (es:List End) (h:os=es.map some) (h1:dd=.tuple ((cF cs k).map kG)) (h2:qs2=eX qs (cF cs k) (es.map fun e=>(p.1,e))) (h3:cs2=cs) (h4:n2=n)
theorem mN.one {cs:List Cp}{qs ps:List Piece}{k m:Nat}{p:Piece}{n:Int}{os os':List (Option End)}{dd dd':PyData}{qs2 qs2':List Piece}{cs2 cs2':List Cp}{n2 n2':Int}(ho:lI cs p (cF cs k) os)(ho':lI cs p (cF cs k) os')(h:mN cs qs ps k m p n os dd qs2 cs2 n2)(h':mN cs qs ps k m p n os' dd' qs2' cs2' n2'):dd=dd'/\qs2=qs2'/\cs2=cs2'/\n2=n2':=by
 obtain rfl:=lI.one ho ho'
 cases h with
 | anew h h1 h2 h3 h4 =>
  cases h' with
  | anew g g1 g2 g3 g4=>exact⟨by rw [h1,g1],by rw [h2,g2],by rw [h3,g3],by rw [h4,g4]⟩
  | nS es g g1 g2 g3 g4 =>
   rw [g] at h
   obtain⟨_,_,z⟩:=Iv.mp h
   cases z
 | nS es h h1 h2 h3 h4 =>
  cases h' with
  | anew g g1 g2 g3 g4 =>
   rw [h] at g
   obtain⟨_,_,z⟩:=Iv.mp g
   cases z
  | nS es' g g1 g2 g3 g4 =>
   have e:es=es':=by
    have:=h.symm.trans g
    have h2:=congrArg (J8 id) this
    rw [Kj,Kj] at h2
    have e1:∀l:List End,J8 (id ∘ some) l=l:=fun l=>by show J8 some l=l;rw [List.filterMap_some]
    rw [e1,e1] at h2
    exact h2
   subst e
   exact⟨by rw [h1,g1],by rw [h2,g2],by rw [h3,g3],by rw [h4,g4]⟩
theorem mN.keeps {cs:List Cp}{qs ps:List Piece}{k m:Nat}{p:Piece}{n:Int}{os:List (Option End)}{dd:PyData}{qs2:List Piece}{cs2:List Cp}{n2:Int}{xs:List Str}(h:mN cs qs ps k m p n os dd qs2 cs2 n2)(ok:il xs (ps.set k p) m)(tok:∀c∈cs,cM xs c.2)(hl:cs.length<=qs.length)(h4:qs.length<=400):(∀c∈cs2,cM xs c.2)/\cs2.length<=qs2.length/\qs2.length<=400:=by
 cases h with
 | anew h h1 h2 h3 h4' =>
  obtain⟨I,hol,_⟩:=jZ ok.bY ok.n0 ok.m1
  have hsz:=ur ok.bY ok.n0 ok.m1
  have hLP:=(uw ok.bY ok.n0 ok.m1).len
  rw [Ig] at hLP
  rw [h2,h3]
  have:=ok.pD
  have:=ok.m3
  exact⟨fun c hc=>(I.ok c hc).2,by omega,by have:=hsz.2;omega⟩
 | nS es h h1 h2 h3 h4' =>
  rw [h2,h3,jy]
  exact⟨tok,hl,h4⟩
theorem rN:∀(ns:List Nat) (qs ps:List Piece),jj qs->jj ps->jj (eX qs ns ps)
 | [],qs,ps,h,_=>by cases ps <;> exact h
 | n::ns,qs,[],h,_=>h
 | n::ns,qs,p::ps,h,g=>rN ns _ ps (Ew h (g p (Iy ..))) fun q hq=>g q (Iz _ hq)
theorem mN.lay {cs:List Cp}{qs ps:List Piece}{k m:Nat}{p:Piece}{n:Int}{os:List (Option End)}{dd:PyData}{qs2:List Piece}{cs2:List Cp}{n2:Int}{xs:List Str}(h:mN cs qs ps k m p n os dd qs2 cs2 n2)(ho:lI cs p (cF cs k) os)(ok:il xs (ps.set k p) m)(hk:k<ps.length)(l:jj qs):jj qs2:=by
 cases h with
 | anew h h1 h2 h3 h4=>rw [h2];exact gR ok.fA (uq ok.bY ok.n0 ok.m1)
 | nS es h h1 h2 h3 h4 =>
  rw [h2]
  have hp:p∈ps.set k p:=IB (KG hk)
  have lp:=gR ok.fA ok.bY p hp
  refine rN _ _ _ l fun q hq=>?_
  obtain⟨e,he,rfl⟩:=Iv.mp hq
  refine⟨lp.1,?_⟩
  obtain⟨j,hj⟩:=Kc (show some e∈os by rw [h];exact Iv.mpr ⟨e,he,rfl⟩)
  obtain⟨n,_,c,_,os',_,h2⟩:=fL ho hj
  have e2:some e=some (gG p.2 (os'.filterMap id)):=by
   rcases h2 with ⟨_,z⟩ | ⟨_,z⟩
   ·cases z
   ·exact z
  rw [IA.inj e2]
  exact wC lp.2 _
def ky (ps qs:List Piece)(ds:List PyData)(n:Int):PyData:=.tuple [bK ps,bK qs,.tuple ds,.int n]
theorem uF {ps:List Piece}(h:jj ps):(bK ps).canLay0=true:=dq _ fun d hd=>by
 obtain⟨p,hp,rfl⟩:=Iv.mp hd
 exact zk (h p hp)
theorem uG (ps:List Piece):(bK ps).depth<=8:=by
 have h1:=jC (m:=3) (ps.map bO) fun d hd=>by obtain⟨x,_,rfl⟩:=Iv.mp hd;exact AB x
 show PyData.depthAll (ps.map bO)+1<=8
 omega
theorem yw {xs:List Str}{ps qs:List Piece}{ds:List PyData}{cs:List Cp}{n:Int}(h:Paired (fun d c=>CD c d) ds cs)(fA:∀x∈xs,eG x)(tok:∀c∈cs,cM xs c.2)(lp:jj ps)(lq:jj qs):(ky ps qs ds n).canLay0=true/\(ky ps qs ds n).depth<=60:=by
 obtain⟨l1,l2⟩:=Ep h fun c hc=>(tok c hc).lay fA
 constructor
 ·refine dq _ fun d hd=>?_
  rcases Ii.mp hd with rfl | hd
  ·exact uF lp
  rcases Ii.mp hd with rfl | hd
  ·exact uF lq
  rcases Ii.mp hd with rfl | hd
  ·exact dq _ l1
  ·rw [Il.mp hd];rfl
 ·have h2:=jC (m:=7) ds l2
  have h3:=jC (m:=8) [bK ps,bK qs,.tuple ds,.int n] fun d hd=>by
   rcases Ii.mp hd with rfl | hd
   ·exact uG _
   rcases Ii.mp hd with rfl | hd
   ·exact uG _
   rcases Ii.mp hd with rfl | hd
   ·show PyData.depthAll ds+1<=8;omega
   ·rw [Il.mp hd];exact IF _
  show PyData.depthAll _+1<=60
  omega
theorem zm (a b c d e:V):dC [a,b,c,d,e] (some 2) none=[c,d,e]:=(lG (k:=2) (xs:=[a,b,c,d,e]) (by show 2<=5;decide)).trans rfl
theorem mN.told {cs:List Cp}{qs ps:List Piece}{k m:Nat}{p:Piece}{n:Int}{os:List (Option End)}{dd:PyData}{qs2:List Piece}{cs2:List Cp}{n2:Int}(h:mN cs qs ps k m p n os dd qs2 cs2 n2):dd.canLay0=true/\dd.depth<=60/\b0 dd=true:=by
 cases h with
 | anew h h1 h2 h3 h4=>rw [h1];exact⟨rfl,IF _,rfl⟩
 | nS es h h1 h2 h3 h4 =>
  rw [h1]
  have nl:∀l:List Nat,bX (l.map kG)=true:=by
   intro l
   induction l with
   | nil=>rfl
   | cons a l ih=>show (true&&bX (l.map kG))=true;rw [ih];rfl
  exact⟨AQ _,CC _,nl _⟩
end L2
namespace My
open PySem PySem.Spec PyProof.Rows L2
def top (i:Nat):Stmt:=PySem.Challenge.pw_ledpast_k44_keepers_by_hand.main.body.getD i (.Pass ⟨0,0,0,0⟩)
structure Bl (mg:Str->Option Value):Prop where
 len:mg "len" = none
 zip:mg "zip" = none
 tuple:mg "tuple" = none
 sorted:mg "sorted" = none
 set:mg "set" = none
 dict:mg "dict" = none
 min:mg "min" = none
 max:mg "max" = none
 range:mg "range" = none
 list:mg "list" = none
 int:mg "int" = none
 all:mg "all" = none
 enumerate:mg "enumerate" = none
abbrev iq:Stmt:=top 7
theorem qg:aO ["thing", "kinds", "wanted"] ["thing", "kinds", "wanted"] (au iq):=cy
abbrev nT:Stmt:=top 9
theorem zo:aO ["end"] ["end"] (au nT):=cy
abbrev iP:Stmt:=top 10
theorem rO:aO ["end"] ["end"] (au iP):=cy
abbrev mn:Stmt:=top 8
theorem gO:aO ["plan", "names", "deeds", "end", "deed"] ["plan"] (au mn):=cy
abbrev nU:Stmt:=top 16
theorem mq:aO ["number", "stretch", "low", "high"] ["number", "stretch"] (au nU):=cy
abbrev j3:Stmt:=top 18
theorem gQ:aO ["stretch", "number", "low", "high", "top"] ["stretch", "number"] (au j3):=cy
abbrev kJ:Stmt:=top 19
theorem ir:aO ["stretch", "number", "low", "high", "bottom"] ["stretch", "number"] (au kJ):=cy
abbrev nV:Stmt:=top 20
theorem zp:aO ["stretch", "number"] ["stretch", "number"] (au nV):=cy
abbrev jm:Stmt:=top 21
theorem iQ:aO ["stretch", "number", "low", "high"] ["stretch", "number"] (au jm):=cy
abbrev nW:Stmt:=top 22
theorem zq:aO ["stretch", "word", "number", "side"] ["stretch", "word", "number", "side"] (au nW):=cy
abbrev kK:Stmt:=top 17
theorem gf:aO ["one", "other", "low", "high", "low_fits", "high_fits"] ["one", "other"] (au kK):=cy
abbrev mr:Stmt:=top 25
theorem xc:aO ["stretches"] ["stretches"] (au mr):=cy
abbrev sX:Stmt:=top 26
theorem CM:aO ["facts", "name"] ["facts", "name"] (au sX):=cy
abbrev j4:Stmt:=top 27
theorem mO:aO ["facts", "name", "stretch", "stretches"] ["facts", "name", "stretch"] (au j4):=cy
abbrev qh:Stmt:=top 28
theorem uH:aO ["facts", "others", "stretches"] ["facts", "others"] (au qh):=cy
abbrev sY:Stmt:=top 29
theorem qi:aO ["stretch", "number", "low", "high"] ["stretch", "number"] (au sY):=cy
abbrev gU:Stmt:=top 30
theorem ju:aO ["stretches", "deed", "word", "name"] ["stretches", "deed"] (au gU):=cy
abbrev qm:Stmt:=top 31
theorem nX:aO ["facts", "deeds", "stretches", "deed"] ["facts", "deeds"] (au qm):=cy
abbrev iR:Stmt:=top 32
theorem dG:aO ["facts", "end", "ways", "word", "name", "number", "stretch", "parts"] ["facts", "end"] (au iR):=cy
abbrev sZ:Stmt:=top 33
theorem wH:aO ["facts", "end", "beyond"] ["facts", "end"] (au sZ):=cy
abbrev tf:Stmt:=top 34
theorem CN:aO ["plan"] ["plan"] (au tf):=cy
abbrev iS:Stmt:=inClass (top 12) 0
theorem rP:aO ["self", "first"] ["self", "first"] (au iS):=cy
abbrev iT:Stmt:=inClass (top 12) 1
theorem rQ:aO ["self", "thing"] ["self", "thing"] (au iT):=cy
abbrev nY:Stmt:=top 13
theorem iu:aO ["plan", "found", "waiting", "at", "way"] ["plan"] (au nY):=cy
abbrev tj:Stmt:=top 14
theorem mw:aO ["plan", "found", "at", "way"] ["plan"] (au tj):=cy
abbrev my:Stmt:=top 37
theorem pE:aO ["lead", "tops", "places", "most", "piece"] ["lead", "tops", "places", "most"] (au my):=cy
abbrev qo:Stmt:=top 38
theorem AY:aO ["end", "ways"] ["end", "ways"] (au qo):=cy
abbrev mz:Stmt:=top 39
theorem du:aO ["plan", "most", "tops", "copies", "pieces", "piece", "facts", "deeds", "end", "ahead", "ways"] ["plan", "most"] (au mz):=cy
abbrev tm:Stmt:=top 41
theorem CO:aO ["one", "lead"] ["one", "lead"] (au tm):=cy
abbrev j5:Stmt:=top 11
theorem uP:aO ["plan", "place", "piece"] ["plan", "place", "piece"] (au j5):=cy
abbrev kL:Stmt:=top 43
theorem j6:aO ["lead", "copies", "at", "one"] ["lead", "copies"] (au kL):=cy
abbrev kM:Stmt:=top 44
theorem iw:aO ["facts", "piece", "copies", "deeds", "end", "ways"] ["facts", "piece", "copies"] (au kM):=cy
abbrev gH:Stmt:=inClass (top 45) 0
theorem nZ:aO ["self", "plan", "most"] ["self", "plan", "most"] (au gH):=cy
abbrev gg:Stmt:=inClass (top 45) 1
theorem mQ:aO ["self"] ["self"] (au gg):=cy
abbrev jn:Stmt:=inClass (top 45) 2
theorem gF:aO ["self", "places", "pieces", "others", "at", "piece"] ["self", "places", "pieces"] (au jn):=cy
abbrev gI:Stmt:=inClass (top 45) 3
theorem gh:aO ["self", "place", "piece", "places", "pieces"] ["self", "place", "piece"] (au gI):=cy
abbrev jo:Stmt:=inClass (top 45) 4
theorem tq:aO ["self"] ["self"] (au jo):=cy
abbrev iU:Stmt:=inClass (top 45) 5
theorem rR:aO ["self"] ["self"] (au iU):=cy
abbrev iV:Stmt:=inClass (top 45) 6
theorem rS:aO ["self"] ["self"] (au iV):=cy
abbrev jq:Stmt:=inClass (top 45) 7
theorem tD:aO ["self"] ["self"] (au jq):=cy
abbrev n9:Stmt:=top 47
theorem mB:aO ["script", "k", "cell"] ["script", "k"] (au n9):=cy
abbrev mC:Stmt:=top 48
theorem pF:aO ["bag", "many", "found"] ["bag", "many"] (au mC):=cy
abbrev kN:Stmt:=top 49
theorem dX:aO ["bag", "letters", "many", "base", "at", "names", "k", "name"] ["bag"] (au kN):=cy
abbrev j7:Stmt:=top 50
theorem uQ:aO ["bag"] ["bag"] (au j7):=cy
abbrev mD:Stmt:=top 51
theorem kO:aO ["bag", "names", "word", "name"] ["bag", "names"] (au mD):=cy
abbrev oa:Stmt:=top 52
theorem jA:aO ["bag", "names", "count", "way", "word", "name"] ["bag", "names", "count"] (au oa):=cy
abbrev mE:Stmt:=top 53
theorem fO:aO ["bag", "count", "most", "names", "pieces", "k", "many", "end"] ["bag", "count", "most"] (au mE):=cy
abbrev kP:Stmt:=top 54
theorem wI:aO ["bag", "most"] ["bag", "most"] (au kP):=cy
abbrev ix:Stmt:=top 55
theorem eM:aO ["plan", "names", "deeds", "end", "deed"] ["plan"] (au ix):=cy
abbrev mF:Stmt:=top 56
theorem fc:aO ["stretch", "word", "number", "side", "low", "high"] ["stretch", "word", "number", "side"] (au mF):=cy
abbrev mG:Stmt:=top 57
theorem kQ:aO ["facts", "name", "stretch", "more", "other"] ["facts", "name", "stretch"] (au mG):=cy
abbrev j8:Stmt:=top 58
theorem cH:aO ["facts", "deeds", "deed", "stretch", "low", "high"] ["facts", "deeds"] (au j8):=cy
abbrev j9:Stmt:=top 60
theorem eV:aO ["one", "other", "name", "low", "high", "less", "more"] ["one", "other"] (au j9):=cy
abbrev iW:Stmt:=top 61
theorem fT:aO ["facts", "table", "name", "stretch"] ["facts"] (au iW):=cy
abbrev kR:Stmt:=top 59
theorem iy:aO ["facts", "end", "found", "side", "part"] ["facts", "end"] (au kR):=cy
abbrev kT:Stmt:=top 62
theorem eN:aO ["bag", "plan", "deeds", "end", "names", "way", "at"] ["bag", "plan"] (au kT):=cy
abbrev kd:Stmt:=top 63
theorem dh:aO ["piece", "copies", "facts", "deeds", "end", "numbers", "side", "there", "more", "some"] ["piece", "copies", "facts"] (au kd):=cy
abbrev iz:Stmt:=top 64
theorem bP:aO ["kept", "place", "piece", "plan", "most", "other", "copies", "made", "numbers", "pieces", "some", "k"] ["kept", "place", "piece"] (au iz):=cy
abbrev oP:Stmt:=top 65
theorem ef:aO ["script", "first", "most", "great", "plan", "keeper", "other", "copies", "kept", "k", "bag", "place", "piece", "due"] ["script"] (au oP):=cy
section
variable {P:Program}{w:World}{K:Ih}{mg:Str->Option Value}{base:Heap}
theorem qp {f:Addr} {fd:FuncData} (F:bR K "parts_of_kind" "parts_of_kind" iq f fd) (Z:Bl mg)  : bu P w K mg base bQ 1 f fd ["thing", "kinds", "wanted"] (sF K):=by
 refine F.ok (k:=0) qg (fun vs H Q E h=>?_) (fun cdv A outer s H vs Q E hr h=>?_)
 ·obtain⟨t,s,v0,xs,ks,w,rfl,_⟩:=h
  rfl
 ·obtain⟨t,s,v0,xs,ks,w,rfl,ht,hs,hl,q⟩:=h
  refine⟨_,(ai (ay (eY ["part", "kind"] ["wanted"] [2] rfl (zZ rfl Z.zip (aI (eE gZ (pv 0) (fk ah) fj) (pv 1))) rfl (by decide +kernel) (by decide +kernel) (by decide +kernel) ⟨⟨rfl,.inl rfl,rfl⟩,True.intro⟩ (fun _ _ _ _=>(ox (K:=K) (n:=2) rfl (bU (n:=2) rfl (aG (aB (i:=0) (show ((["part", "kind"]:List Str)++(["wanted"]:List Str)).Nodup by decide +kernel) (hf:=IG rfl)) (aG (aB (i:=1) (show ((["part", "kind"]:List Str)++(["wanted"]:List Str)).Nodup by decide +kernel) (hf:=IG rfl)) bM))))) (fun _ _ _ _=>(iF (aM bT (pv 1) (pv 2) (aS _)))) (fun _ _ _ _=>(pv 0))))),?_⟩
  refine⟨_,rfl,_,rfl,t,_,rfl,ar.of ht,fun hw=>?_,fun _ p np=>?_⟩
  ·exfalso
   obtain⟨h1,_⟩:=hw
   simp [HT.cf] at h1
  ·have ec:dC (v0::xs) (some 1) none=xs:=by simp [dC,HT.cf]
   rw [ec]
   have sp:=ae.new (o:=.tup xs) np
   refine⟨_,rfl,p,s,rfl,⟨_,ar.of aa⟩,⟨_,hs.same sp⟩,fun acc na=>?_⟩
   refine z5 (K:=K) (a:=p) (b:=s) (xs:=xs) (ys:=ks.map V.str) (fun i zs Ie H'=>∃(c1 c2:Option V),Ie=[c1,c2,some (.str w)]/\zs=ki w xs ks i/\H' acc=some (.lst zs)/\H' p=some (.tup xs)/\ae H H') ?_ ?_ ?_ ?_
   ·exact⟨none,none,rfl,rfl,aa,ae.new na _ _ aa,sp.trans (ae.new na)⟩
   ·rintro i zs Ie H4 hi ⟨c1,c2,rfl,rfl,ha,hp4,s4⟩
    exact⟨ar.of hp4,hs.same s4,ha,yP (by have:=Ag (w:=w) (xs:=xs) (ks:=ks) (i:=i);omega)⟩
   ·rintro i x y zs Ie H4 u hx hy hu ⟨c1,c2,rfl,rfl,ha,hp4,s4⟩
    obtain⟨k,rfl,hk⟩:∃k,y=V.str k/\ks[i]?=some k:=by
     rw [Iu] at hy
     cases e:ks[i]? with
     | none=>rw [e] at hy;cases hy
     | some k=>rw [e] at hy;exact⟨k,(IA.inj hy).symm,rfl⟩
    have su:=ae.new (o:=.tup [x,.str k]) hu
    refine⟨u,_,rfl,ar.of aa,rfl,_,_,rfl,_,_,rfl,rfl,?_⟩
    refine⟨_,rfl,_,rfl,rfl,_,rfl,?_⟩
    have hn:=yU (w:=w) hx hk
    by_cases hkw:k=w
    ·rw [if_pos hkw] at hn
     refine cC (decide_eq_true (congrArg V.str hkw)) ?_
     refine⟨_,rfl,su _ _ ha,_,_,rfl,hn.symm,aa,?_,?_⟩
     ·rw [ao (bJ hp4 ha (by intro z;cases z))]
      exact su _ _ hp4
     ·exact (s4.trans su).put (sp.free na)
    ·rw [if_neg hkw,JF] at hn
     refine bB (decide_eq_false fun z=>hkw (V.str.inj z)) ?_
     exact⟨_,_,rfl,hn.symm,su _ _ ha,su _ _ hp4,s4.trans su⟩
   ·rintro zs Ie H4 ⟨c1,c2,rfl,rfl,ha,hp4,s4⟩
    rw [Af] at ha
    exact q acc H4 ha s4
theorem zr {f:Addr} {fd:FuncData} (F:bR K "ways_on" "ways_on" nT f fd) (Z:Bl mg) {aE s0 s1 s2 s3:Addr} (GE:vM K mg aE s0 s1 s2 s3) (O_parts_of_kind:Own P w K mg base "parts_of_kind" 1 ["thing", "kinds", "wanted"] (sF K)):bu P w K mg base bQ 3 f fd ["end"] lj:=by
 refine F.ok (k:=2) zo (fun vs H Q E h=>?_) (fun cdv A outer s H vs Q E hr h=>?_)
 ·obtain⟨ea,e,rfl,_⟩:=h
  rfl
 ·obtain⟨ea,e,rfl,he,q⟩:=h
  refine⟨_,(ai (ay (bg bE rfl Z.tuple cA (aH (aJ O_parts_of_kind hr (fb (pv 0) (sE GE.tab rfl (aF aY (pv 0) ah) (fun _ _=>rfl)) bN)))))),?_⟩
  obtain⟨xs,ev,hl,hp⟩:=Ah e
  rw [ev] at he
  obtain⟨s,hs,ks⟩:=GE.at_ e
  refine⟨_,rfl,_,rfl,ea,_,0,_,rfl,rfl,ar.of he,cg,_,s,rfl,hs,ea,s,_,xs,kE e, "piece",rfl,he,.inr ks,hl,fun l H1 hl1 s1=>?_⟩
  rw [hp] at hl1
  exact⟨l,_,rfl,.inl ⟨aN.of hl1,fun t ht=>q t _ aa (s1.trans (ae.new ht))⟩⟩
theorem rT {f:Addr} {fd:FuncData} (F:bR K "without_ways" "without_ways" iP f fd) (Z:Bl mg) (O_ways_on:Own P w K mg base "ways_on" 3 ["end"] lj):bu P w K mg base bQ 4 f fd ["end"] ud:=by
 refine F.ok (k:=3) rO (fun vs H Q E h=>?_) (fun cdv A outer s H vs Q E hr h=>?_)
 ·obtain⟨ea,e,rfl,_⟩:=h
  rfl
 ·obtain⟨ea,e,rfl,he,q⟩:=h
  refine⟨_,(ai (ay (eE gZ (pv 0) fj (fk (bc fW (bf aZ rfl Z.len bZ (aH (pv 0))) (bf aZ rfl Z.len bZ (aH (aJ O_ways_on hr (aH (pv 0)))))))))),?_⟩
  refine⟨_,rfl,_,rfl,ea,_,rfl,.inr (ar.of he),_,rfl,ea,e,rfl,he,fun t H1 ht s1=>⟨t,_,rfl,.inr (ar.of ht),_,_,rfl,rfl,?_⟩⟩
  have he1:=s1 _ _ he
  have el:((dm e).length:Int)-(((bH e).map fun k=>V.int (k:Nat)).length:Int)=((me e).length:Nat):=by cases e <;> rfl
  have ec:dC (dm e) none (some ((me e).length:Nat))=me e:=by
   unfold dC
   rw [HT.pK,HT.iD]
   cases e <;> rfl
  refine⟨_,congrArg V.int el,ea,_,rfl,ar.of he1,fun hw=>?_,fun _ p hp=>?_⟩
  ·unfold dC at ec
   rw [hw.1,hw.2] at ec
   refine q ea H1 ?_ s1
   rw [he1,<-ec]
   simp
  ·rw [ec]
   exact q p _ aa (s1.trans (ae.new hp))
theorem xf {f:Addr} {fd:FuncData} (F:bR K "names_of" "names_of" mn f fd) (Z:Bl mg) {aD d0 d1 d2 d3 d4:Addr} (GD:vb K mg aD d0 d1 d2 d3 d4) {aE s0 s1 s2 s3:Addr} (GE:vM K mg aE s0 s1 s2 s3) (O_parts_of_kind:Own P w K mg base "parts_of_kind" 1 ["thing", "kinds", "wanted"] (sF K)):bu P w K mg base bQ 3 f fd ["plan"] tX:=by
 refine F.ok (k:=2) gO (fun vs H Q E h=>?_) (fun cdv A outer s H vs Q E hr h=>?_)
 ·obtain⟨plv,ps,xs,m,rfl,_⟩:=h
  rfl
 ·obtain⟨plv,ps,xs,m,rfl,hp,bY,hx64,hal,q⟩:=h
  refine⟨_,(af (aX (i:=1) gO.nd (cP cW))
   (af (dA PassesOwn.never rfl (d9 (pv 0)) (bU rfl (aG (aB (i:=2) gO.nd) (aG (aB (i:=3) gO.nd) bM)))
   (af (dA PassesOwn.never rfl (d9 (pv 2)) (aB (i:=4) gO.nd)
   (ai (dZ (ia PySem.F.plainAttrs_list PySem.F.slot_list_extend PySem.F.type_list_extend tP (pv 1) (aH (aJ O_parts_of_kind hr (fb (pv 4) (sE GD.tab rfl (aF aY (pv 4) ah) (fun _ _=>rfl)) bN)))))))
   (ai (dZ (ia PySem.F.plainAttrs_list PySem.F.slot_list_extend PySem.F.type_list_extend tP (pv 1) (aH (aJ O_parts_of_kind hr (fb (pv 3) (sE GE.tab rfl (aF aY (pv 3) ah) (fun _ _=>rfl)) bN))))))))
   (ai (ay (bg bE rfl Z.tuple cA (aH (bf (uI rfl) rfl Z.sorted hG (aH (bg (Au rfl) rfl Z.set Ar (aH (pv 1))))))))))),?_⟩
  obtain⟨pp,vs,rfl,e1,r⟩:=aL.bF hp
  have hl:=r.len
  refine⟨(by show 0<=sizeLine;decide),fun nm nn=>?_⟩
  have s0:=ae.new (o:=.lst []) nn
  have big:∀(i:Nat) (ys:List Str),ys.length<=4000->(ys.map V.str).length<=sizeLine:=fun i ys h=>by rw [Ig];exact Ir h (by decide)
  refine⟨_,rfl,pp,rfl,⟨_,ar.of (s0 _ _ e1)⟩,fM (K:=K) (a:=pp) (xs:=vs) (fun i Ic H'=>∃(u1 u2 u3:Option V),Ic=[some (.ref pp),some (.ref nm),u1,u2,u3]/\H' nm=some (.lst ((bA (ps.take i)).map V.str))/\ae H H') ?_ ?_ ?_ ?_⟩
  ·exact⟨_,_,_,rfl,aa,s0⟩
  ·rintro i Ic H1 hi ⟨u1,u2,u3,rfl,h1,s1⟩
   exact ar.of (s1 _ _ e1)
  ·rintro i x Ic H1 hi ⟨u1,u2,u3,rfl,h1,s1⟩
   have hlt:i<ps.length:=by
    have:=(IE.mp hi).1
    rw [hl,Ig] at this
    exact this
   have hpi:ps[i]?=some ps[i]:=by simp [hlt]
   generalize ps[i]=pe at hpi
   obtain⟨ds,e⟩:=pe
   have hnext:=kn (f:=pNames) hpi
   have hsz:(bA (ps.take (i+1))).length<=4000:=Ir (mJ (f:=pNames) (i+1)) hal
   have hsz':(bA (ps.take i)).length+((ds.flatMap cJ).length+(gN e).length)<=4000:=by
    have z:=congrArg Jo hnext
    unfold bA at hsz ⊢
    rw [z] at hsz
    simp only [Io,pNames] at hsz
    omega
   obtain⟨p',xs',pc,da,ea,ws,ep,e1',el',hx',e2,e3,r3,e4⟩:=iK hp hpi
   cases ep
   rw [e1] at e1'
   cases e1'
   rw [hi] at hx'
   cases hx'
   refine⟨pc,_,rfl,ar.of (s1 _ _ e2),rfl,_,_,rfl,_,_,rfl,rfl,?_⟩
   refine⟨_,rfl,da,rfl,⟨_,ar.of (s1 _ _ e3)⟩,fM (K:=K) (a:=da) (xs:=ws) (fun j Ic H'=>∃(u3:Option V),Ic=[some (.ref pp),some (.ref nm),some (.ref da),some (.ref ea),u3]/\H' nm=some (.lst ((bA (ps.take i)++(ds.take j).flatMap cJ).map V.str))/\ae H H') ?_ ?_ ?_ ?_⟩
   ·exact⟨_,rfl,by simpa using h1,s1⟩
   ·rintro j Ic H2 hj ⟨u3',rfl,h2,s2⟩
    exact ar.of (s2 _ _ e3)
   ·rintro j y Ic H2 hj ⟨u3',rfl,h2,s2⟩
    have hjl:j<ds.length:=by
     have:=(IE.mp hj).1
     rw [r3.len,Ig] at this
     exact this
    have hdj:ds[j]?=some ds[j]:=by simp [hjl]
    generalize ds[j]=dd at hdj
    obtain⟨v,hv,rd⟩:=r3.get (i:=j) (d:=cn dd) (by rw [Iu,hdj];rfl)
    rw [hj] at hv
    cases hv
    obtain⟨dp,rfl,hdp⟩:=gY rd
    have hdp2:=s2 _ _ hdp
    obtain⟨zs,ez,hzl,hpk⟩:=y4 dd
    rw [ez] at hdp2
    obtain⟨s,hs,ks⟩:=GD.at_ dd
    have hnj:=kn (f:=cJ) hdj
    have hsj:((ds.take (j+1)).flatMap cJ).length<=(ds.flatMap cJ).length:=mJ (f:=cJ) (j+1)
    refine bx ?_
    refine⟨_,rfl,.inl ⟨rfl,_,aN.of h2⟩,_,rfl,_,rfl,dp,_,0,_,rfl,rfl,ar.of hdp2,cg,_,s,rfl,hs,dp,s,_,zs,kD dd, "name",rfl,hdp2,.inr ks,hzl,fun l H3 hl3 s3=>?_⟩
    rw [hpk] at hl3
    have h3:=s3 _ _ h2
    refine⟨nm,l,_,_,rfl,rfl,h3,hl3,?_,?_⟩
    ·rw [Ig,Ig,Io]
     rw [hnj,Io] at hsj
     exact Ir (show _<=4000 by omega) (by decide)
    ·refine⟨_,rfl,?_,(s2.trans s3).put nn⟩
     rw [aa,hnj,<-Jc];simp only [Iw]
   ·rintro Ic H2 ⟨u3',rfl,h2,s2⟩
    rw [show ws.length=ds.length by rw [r3.len,Ig],II] at h2
    have e42:=s2 _ _ e4
    obtain⟨zs,ez,hzl,hpk⟩:=y6 e
    rw [ez] at e42
    obtain⟨s,hs,ks⟩:=GE.at_ e
    refine⟨_,rfl,.inl ⟨rfl,_,aN.of h2⟩,_,rfl,_,rfl,ea,_,0,_,rfl,rfl,ar.of e42,cg,_,s,rfl,hs,ea,s,_,zs,kE e, "name",rfl,e42,.inr ks,hzl,fun l H3 hl3 s3=>?_⟩
    rw [hpk] at hl3
    have h3:=s3 _ _ h2
    refine⟨nm,l,_,_,rfl,rfl,h3,hl3,?_,?_⟩
    ·rw [Ig,Ig,Io]
     exact Ir (show _<=4000 by omega) (by decide)
    ·refine⟨_,_,_,rfl,?_,(s2.trans s3).put nn⟩
     rw [aa,<-Iw]
     unfold bA at hnext ⊢
     rw [hnext]
     simp only [pNames,Jc]
  ·rintro Ic H1 ⟨u1,u2,u3,rfl,h1,s1⟩
   rw [show vs.length=ps.length by rw [hl,Ig],II] at h1
   have hk:aN K H1 nm (((bA ps).map (Sum.inr:Str->Key)).map kV):=by rw [Ea];exact aN.of h1
   refine⟨_,rfl,nm,(bA ps).map Sum.inr,rfl,hk,(by rw [Ig];show _+1<4096;omega),fun sa hsa=>?_⟩
   have hf:=pT bY
   refine⟨sa,LS.cQ (bA ps),rfl,(by rw [aa,y7]),(by omega),fun l ss hperm hsort hn=>?_⟩
   have s2:=ae.new (o:=cT P w sa (LS.cQ ((bA ps).map (Sum.inr:Str->Key)))) hsa
   refine⟨l,_,rfl,.inl ⟨aN.of aa,fun t ht=>?_⟩⟩
   exact q t ss _ aa hperm hsort (by rw [hperm.length_eq];omega) (((s1.trans s2).trans (ae.new hn)).trans (ae.new ht))
theorem zt {f:Addr} {fd:FuncData} (F:bR K "lies_in" "lies_in" nU f fd) (Z:Bl mg)  : bu P w K mg base bQ 1 f fd ["number", "stretch"] (xU K):=by
 refine F.ok (k:=0) mq (fun vs H Q E h=>?_) (fun cdv A outer s H vs Q E hr h=>?_)
 ·obtain⟨n,q,lo,hi,rfl,_⟩:=h
  rfl
 ·obtain⟨n,q,lo,hi,rfl,hq,k⟩:=h
  refine⟨_,(af (cD (pv 1) (bU rfl (aG (aB (i:=2) mq.nd) (aG (aB (i:=3) mq.nd) bM))))
   (ai (ay (mV (oi (i5 (fh (pv 2))) (fU (fi oo (pv 2) (pv 0) (aS _)))) (fU (oi (i5 (fh (pv 3))) (fU (fi oo (pv 0) (pv 3) (aS _))))))))),?_⟩
  refine⟨_,rfl,q,_,rfl,hq,rfl,_,_,rfl,_,_,rfl,rfl,?_⟩
  cases lo with
  | none =>
   refine⟨_,rfl,_,rfl,bh ⟨_,rfl,bh ?_⟩⟩
   cases hi with
   | none=>exact⟨_,rfl,_,rfl,bh k⟩
   | some b =>
    refine⟨_,rfl,_,rfl,bw ⟨_,rfl,_,rfl,_,_,rfl,rfl,?_⟩⟩
    simpa only [eQ,J7] using k
  | some a =>
   refine⟨_,rfl,_,rfl,bw ⟨_,rfl,_,rfl,_,_,rfl,rfl,_,rfl,?_⟩⟩
   cases hx:decide (a<=n) with
   | false=>exact bw (by have k':=k;simp only [eQ,hx,Kd] at k';exact k')
   | true =>
    refine bh ?_
    cases hi with
    | none=>exact⟨_,rfl,_,rfl,bh (by have k':=k;simp only [eQ,hx,J7] at k';exact k')⟩
    | some b =>
     refine⟨_,rfl,_,rfl,bw ⟨_,rfl,_,rfl,_,_,rfl,rfl,?_⟩⟩
     have k':=k
     simp only [eQ,hx,J7] at k'
     exact k'
theorem uR {f:Addr} {fd:FuncData} (F:bR K "part_below" "part_below" j3 f fd) (Z:Bl mg)  : bu P w K mg base bQ 1 f fd ["stretch", "number"] (nG K gM):=by
 refine F.ok (k:=0) gQ (fun vs H Q E h=>?_) (fun cdv A outer s H vs Q E hr h=>?_)
 ·obtain⟨p,n,lo,hi,rfl,_⟩:=h
  rfl
 ·obtain⟨p,n,lo,hi,rfl,hp,q⟩:=h
  refine⟨_,(af (cD (pv 0) (bU rfl (aG (aB (i:=2) gQ.nd) (aG (aB (i:=3) gQ.nd) bM))))
   (af (aX (i:=4) gQ.nd (fV (dz (fh (pv 3))) (bc fW (pv 1) ah) (bf (mX rfl) rfl Z.min vw (aI (pv 3) (bc fW (pv 1) ah)))))
   (af (bo (PW.pt (gJ (dz (dY (pv 2))) (gn (aM lP (pv 2) (pv 4) (aS _)))))
   (ai (ay bW))
   aQ)
   (ai (ay (aV (aI (pv 2) (pv 4)))))))),?_⟩
  refine⟨_,rfl,p,_,rfl,hp,rfl,_,_,rfl,_,_,rfl,rfl,?_⟩
  cases hi with
  | none =>
   refine⟨_,rfl,_,rfl,bh ⟨_,rfl,_,_,rfl,rfl,?_⟩⟩
   cases lo with
   | none =>
    refine⟨_,rfl,_,rfl,bw (bw ⟨_,rfl,_,rfl,ln2,fun l hl=>?_⟩)⟩
    exact q _ _ ⟨l,rfl,aa⟩ (ae.new hl)
   | some i =>
    refine⟨_,rfl,_,rfl,bh ⟨_,rfl,_,rfl,_,_,rfl,rfl,_,rfl,?_⟩⟩
    refine cU (fun hc=>?_) (fun hc=>?_)
    ·have hlt:jh none n<i:=of_decide_eq_true hc
     exact q _ _ (by simp only [gM];rw [if_pos hlt];rfl) (ae.refl H)
    ·have hlt:¬jh none n<i:=fun z=>hc (decide_eq_true z)
     refine⟨_,rfl,_,rfl,ln2,fun l hl=>?_⟩
     exact q _ _ (by simp only [gM];rw [if_neg hlt];exact⟨l,rfl,aa⟩) (ae.new hl)
  | some j =>
   refine⟨_,rfl,_,rfl,bw ⟨_,rfl,_,rfl,_,_,rfl,rfl,_,_,rfl,?_⟩⟩
   cases lo with
   | none =>
    refine⟨_,rfl,_,rfl,bw (bw ⟨_,rfl,_,rfl,ln2,fun l hl=>?_⟩)⟩
    exact q _ _ ⟨l,rfl,aa⟩ (ae.new hl)
   | some i =>
    refine⟨_,rfl,_,rfl,bh ⟨_,rfl,_,rfl,_,_,rfl,rfl,_,rfl,?_⟩⟩
    refine cU (fun hc=>?_) (fun hc=>?_)
    ·have hlt:jh (some j) n<i:=of_decide_eq_true hc
     exact q _ _ (by simp only [gM];rw [if_pos hlt];rfl) (ae.refl H)
    ·have hlt:¬jh (some j) n<i:=fun z=>hc (decide_eq_true z)
     refine⟨_,rfl,_,rfl,ln2,fun l hl=>?_⟩
     exact q _ _ (by simp only [gM];rw [if_neg hlt];exact⟨l,rfl,aa⟩) (ae.new hl)
theorem wJ {f:Addr} {fd:FuncData} (F:bR K "part_from" "part_from" kJ f fd) (Z:Bl mg)  : bu P w K mg base bQ 1 f fd ["stretch", "number"] (nG K iY):=by
 refine F.ok (k:=0) ir (fun vs H Q E h=>?_) (fun cdv A outer s H vs Q E hr h=>?_)
 ·obtain⟨p,n,lo,hi,rfl,_⟩:=h
  rfl
 ·obtain⟨p,n,lo,hi,rfl,hp,q⟩:=h
  refine⟨_,(af (cD (pv 0) (bU rfl (aG (aB (i:=2) ir.nd) (aG (aB (i:=3) ir.nd) bM))))
   (af (aX (i:=4) ir.nd (fV (dz (fh (pv 2))) (pv 1) (bf (zJ rfl) rfl Z.max Fj (aI (pv 2) (pv 1)))))
   (af (bo (PW.pt (gJ (dz (dY (pv 3))) (gn (aM lP (pv 4) (pv 3) (aS _)))))
   (ai (ay bW))
   aQ)
   (ai (ay (aV (aI (pv 4) (pv 3)))))))),?_⟩
  refine⟨_,rfl,p,_,rfl,hp,rfl,_,_,rfl,_,_,rfl,rfl,?_⟩
  cases lo with
  | none =>
   refine⟨_,rfl,_,rfl,bh ⟨_,rfl,?_⟩⟩
   cases hi with
   | none =>
    refine⟨_,rfl,_,rfl,bw (bw ⟨_,rfl,_,rfl,ln2,fun l hl=>?_⟩)⟩
    exact q _ _ ⟨l,rfl,aa⟩ (ae.new hl)
   | some j =>
    refine⟨_,rfl,_,rfl,bh ⟨_,rfl,_,rfl,_,_,rfl,rfl,_,rfl,?_⟩⟩
    refine cU (fun hc=>?_) (fun hc=>?_)
    ·have hlt:j<ji none n:=of_decide_eq_true hc
     exact q _ _ (by simp only [iY];rw [if_pos hlt];rfl) (ae.refl H)
    ·have hlt:¬j<ji none n:=fun z=>hc (decide_eq_true z)
     refine⟨_,rfl,_,rfl,ln2,fun l hl=>?_⟩
     exact q _ _ (by simp only [iY];rw [if_neg hlt];exact⟨l,rfl,aa⟩) (ae.new hl)
  | some i =>
   refine⟨_,rfl,_,rfl,bw ⟨_,rfl,_,rfl,_,_,rfl,?_⟩⟩
   cases hi with
   | none =>
    refine⟨_,rfl,_,rfl,bw (bw ⟨_,rfl,_,rfl,ln2,fun l hl=>?_⟩)⟩
    exact q _ _ ⟨l,rfl,aa⟩ (ae.new hl)
   | some j =>
    refine⟨_,rfl,_,rfl,bh ⟨_,rfl,_,rfl,_,_,rfl,rfl,_,rfl,?_⟩⟩
    refine cU (fun hc=>?_) (fun hc=>?_)
    ·have hlt:j<ji (some i) n:=of_decide_eq_true hc
     exact q _ _ (by simp only [iY];rw [if_pos hlt];rfl) (ae.refl H)
    ·have hlt:¬j<ji (some i) n:=fun z=>hc (decide_eq_true z)
     refine⟨_,rfl,_,rfl,ln2,fun l hl=>?_⟩
     exact q _ _ (by simp only [iY];rw [if_neg hlt];exact⟨l,rfl,aa⟩) (ae.new hl)
theorem zu {f:Addr} {fd:FuncData} (F:bR K "part_at" "part_at" nV f fd) (Z:Bl mg) (O_lies_in:Own P w K mg base "lies_in" 1 ["number", "stretch"] (xU K)):bu P w K mg base bQ 2 f fd ["stretch", "number"] (nG K mH):=by
 refine F.ok (k:=1) zp (fun vs H Q E h=>?_) (fun cdv A outer s H vs Q E hr h=>?_)
 ·obtain⟨p,n,lo,hi,rfl,_⟩:=h
  rfl
 ·obtain⟨p,n,lo,hi,rfl,hp,q⟩:=h
  refine⟨_,(af (bo (i6 (aJ O_lies_in hr (aI (pv 1) (pv 0))))
   (ai (ay (aV (aI (pv 1) (pv 1)))))
   aQ)
   (ai (ay bW))),?_⟩
  refine⟨_,rfl,_,rfl,n,p,lo,hi,rfl,hp,_,rfl,?_⟩
  refine cU (fun hc=>?_) (fun hc=>?_)
  ·refine⟨_,rfl,_,rfl,ln2,fun l hl=>?_⟩
   exact q _ _ (by simp only [mH,if_pos hc];exact⟨l,rfl,aa⟩) (ae.new hl)
  ·exact q _ _ (by simp only [mH,if_neg hc];rfl) (ae.refl H)
theorem tE {f:Addr} {fd:FuncData} (F:bR K "part_beside" "part_beside" jm f fd) (Z:Bl mg)  : bu P w K mg base bQ 1 f fd ["stretch", "number"] (nG K jS):=by
 refine F.ok (k:=0) iQ (fun vs H Q E h=>?_) (fun cdv A outer s H vs Q E hr h=>?_)
 ·obtain⟨p,n,lo,hi,rfl,_⟩:=h
  rfl
 ·obtain⟨p,n,lo,hi,rfl,hp,q⟩:=h
  refine⟨_,(af (cD (pv 0) (bU rfl (aG (aB (i:=2) iQ.nd) (aG (aB (i:=3) iQ.nd) bM))))
   (af (bo (PW.pt (gJ (aM bT (pv 2) (pv 1) (aS _)) (gn (aM bT (pv 3) (pv 1) (aS _)))))
   (ai (ay bW))
   aQ)
   (af (bo (aM bT (pv 2) (pv 1) (aS _))
   (ai (ay (aV (aI (bc cY (pv 1) ah) (pv 3)))))
   aQ)
   (af (bo (aM bT (pv 3) (pv 1) (aS _))
   (ai (ay (aV (aI (pv 2) (bc fW (pv 1) ah)))))
   aQ)
   (ai (ay (aV (aI (pv 2) (pv 3))))))))),?_⟩
  refine⟨_,rfl,p,_,rfl,hp,rfl,_,_,rfl,_,_,rfl,rfl,?_⟩
  refine⟨_,rfl,_,rfl,i9,_,rfl,?_⟩
  rw [kh]
  refine cU (fun hc=>?_) (fun hc=>?_)
  ·have h1:lo=some n:=of_decide_eq_true hc
   refine⟨_,rfl,_,rfl,i9,_,rfl,?_⟩
   rw [kh]
   refine cU (fun hd=>?_) (fun hd=>?_)
   ·have h2:hi=some n:=of_decide_eq_true hd
    exact q _ _ (by simp only [jS,if_pos h1,if_pos h2];rfl) (ae.refl H)
   ·have h2:¬hi=some n:=fun z=>hd (decide_eq_true z)
    refine⟨_,rfl,_,rfl,i9,_,rfl,?_⟩
    rw [kh,hc]
    refine bh ⟨_,rfl,_,_,rfl,rfl,_,rfl,ln2,fun l hl=>?_⟩
    exact q _ _ (by simp only [jS,if_pos h1,if_neg h2];exact⟨l,rfl,aa⟩) (ae.new hl)
  ·have h1:¬lo=some n:=fun z=>hc (decide_eq_true z)
   refine bw ?_
   refine⟨_,rfl,_,rfl,i9,_,rfl,?_⟩
   rw [kh,show decide (lo=some n)=false from decide_eq_false h1]
   refine bw ?_
   refine⟨_,rfl,_,rfl,i9,_,rfl,?_⟩
   rw [kh]
   refine cU (fun hd=>?_) (fun hd=>?_)
   ·have h2:hi=some n:=of_decide_eq_true hd
    refine⟨_,rfl,_,rfl,_,_,rfl,rfl,ln2,fun l hl=>?_⟩
    exact q _ _ (by simp only [jS,if_neg h1,if_pos h2];exact⟨l,rfl,aa⟩) (ae.new hl)
   ·have h2:¬hi=some n:=fun z=>hd (decide_eq_true z)
    refine⟨_,rfl,_,rfl,ln2,fun l hl=>?_⟩
    exact q _ _ (by simp only [jS,if_neg h1,if_neg h2];exact⟨l,rfl,aa⟩) (ae.new hl)
theorem zv {f:Addr} {fd:FuncData} (F:bR K "part_of" "part_of" nW f fd) (Z:Bl mg) (O_part_below:Own P w K mg base "part_below" 1 ["stretch", "number"] (nG K gM)) (O_part_from:Own P w K mg base "part_from" 1 ["stretch", "number"] (nG K iY)) (O_part_at:Own P w K mg base "part_at" 2 ["stretch", "number"] (nG K mH)) (O_part_beside:Own P w K mg base "part_beside" 1 ["stretch", "number"] (nG K jS)):bu P w K mg base bQ 3 f fd ["stretch", "word", "number", "side"] (xV K):=by
 refine F.ok (k:=2) zq (fun vs H Q E h=>?_) (fun cdv A outer s H vs Q E hr h=>?_)
 ·obtain⟨p,w,n,side,lo,hi,rfl,_⟩:=h
  rfl
 ·obtain⟨p,w,n,side,lo,hi,rfl,hp,q⟩:=h
  refine⟨_,(af (bo (aM bT (pv 1) bN (aS _))
   (ai (ay (fV (i6 (pv 3)) (aJ O_part_below hr (aI (pv 0) (pv 2))) (aJ O_part_from hr (aI (pv 0) (pv 2))))))
   aQ)
   (ai (ay (fV (i6 (pv 3)) (aJ O_part_at hr (aI (pv 0) (pv 2))) (aJ O_part_beside hr (aI (pv 0) (pv 2))))))),?_⟩
  refine⟨_,rfl,rfl,_,rfl,?_⟩
  by_cases hw:w = "less"
  ·subst hw
   rw [Ae]
   refine bh ⟨_,rfl,_,rfl,?_⟩
   cases side with
   | true=>exact bh ⟨_,rfl,_,rfl,p,n,lo,hi,rfl,hp,fun v H1 r s1=>q v H1 (by simp only [dU,lW,if_true];exact r) s1⟩
   | false=>exact bw ⟨_,rfl,_,rfl,p,n,lo,hi,rfl,hp,fun v H1 r s1=>q v H1 (by simp only [dU,lW,if_true,Ju,if_false];exact r) s1⟩
  ·have e:decide (V.str w=V.str "less")=false:=decide_eq_false fun z=>hw (V.str.inj z)
   rw [e]
   refine bw ⟨_,rfl,_,rfl,?_⟩
   cases side with
   | true=>exact bh ⟨_,rfl,_,rfl,p,n,lo,hi,rfl,hp,fun v H1 r s1=>q v H1 (by simp only [dU,vI,if_neg hw,if_true];exact r) s1⟩
   | false=>exact bw ⟨_,rfl,_,rfl,p,n,lo,hi,rfl,hp,fun v H1 r s1=>q v H1 (by simp only [dU,vI,if_neg hw,Ju,if_false];exact r) s1⟩
theorem wK {f:Addr} {fd:FuncData} (F:bR K "is_within" "is_within" kK f fd) (Z:Bl mg)  : bu P w K mg base bQ 1 f fd ["one", "other"] (ug K):=by
 refine F.ok (k:=0) gf (fun vs H Q E h=>?_) (fun cdv A outer s H vs Q E hr h=>?_)
 ·obtain⟨p,q,s,t,rfl,_⟩:=h
  rfl
 ·obtain⟨p,q,s,t,rfl,hp,hq,k⟩:=h
  refine⟨_,(af (cD (pv 1) (bU rfl (aG (aB (i:=2) gf.nd) (aG (aB (i:=3) gf.nd) bM))))
   (af (aX (i:=4) gf.nd (oi (i5 (fh (pv 2))) (fU (mV (i5 (dY (aF aY (pv 0) ah))) (fU (fi oo (pv 2) (aF aY (pv 0) ah) (aS _)))))))
   (af (aX (i:=5) gf.nd (oi (i5 (fh (pv 3))) (fU (mV (i5 (dY (aF aY (pv 0) ah))) (fU (fi oo (aF aY (pv 0) ah) (pv 3) (aS _)))))))
   (ai (ay (mV (pv 4) (fU (pv 5)))))))),?_⟩
  obtain⟨lo,hi⟩:=s
  obtain⟨lo2,hi2⟩:=t
  have k:Q (.bl (fJ lo lo2&&dJ hi hi2)) H:=k
  refine⟨_,rfl,q,_,rfl,hq,rfl,_,_,rfl,_,_,rfl,rfl,?_⟩
  cases lo2 with
  | none =>
   refine⟨_,rfl,_,rfl,bh ?_⟩
   cases hi2 with
   | none =>
    refine⟨_,rfl,_,rfl,bh ?_⟩
    exact⟨_,rfl,_,rfl,bh ⟨_,rfl,k⟩⟩
   | some b =>
    refine⟨_,rfl,_,rfl,bw ?_⟩
    refine⟨_,rfl,p,_,1,_,rfl,rfl,hp,cS,_,rfl,?_⟩
    cases hi with
    | none=>exact bw ⟨_,rfl,_,rfl,bh ⟨_,rfl,k⟩⟩
    | some c =>
     refine bh ⟨_,rfl,p,_,1,_,rfl,rfl,hp,cS,_,rfl,_,_,rfl,rfl,?_⟩
     exact⟨_,rfl,_,rfl,bh ⟨_,rfl,k⟩⟩
  | some a =>
   refine⟨_,rfl,_,rfl,bw ?_⟩
   refine⟨_,rfl,p,_,0,_,rfl,rfl,hp,cg,_,rfl,?_⟩
   cases lo with
   | none =>
    refine bw ?_
    cases hi2 with
    | none =>
     refine⟨_,rfl,_,rfl,bh ?_⟩
     exact⟨_,rfl,_,rfl,bw k⟩
    | some b =>
     refine⟨_,rfl,_,rfl,bw ?_⟩
     refine⟨_,rfl,p,_,1,_,rfl,rfl,hp,cS,_,rfl,?_⟩
     cases hi with
     | none=>exact bw ⟨_,rfl,_,rfl,bw k⟩
     | some c =>
      refine bh ⟨_,rfl,p,_,1,_,rfl,rfl,hp,cS,_,rfl,_,_,rfl,rfl,?_⟩
      exact⟨_,rfl,_,rfl,bw k⟩
   | some a' =>
    refine bh ⟨_,rfl,_,rfl,p,_,0,_,rfl,rfl,hp,cg,_,_,rfl,rfl,?_⟩
    cases hi2 with
    | none =>
     refine⟨_,rfl,_,rfl,bh ?_⟩
     refine⟨_,rfl,_,rfl,?_⟩
     cases hx:decide (a<=a') with
     | true=>exact bh ⟨_,rfl,by have k':=k;simp only [fJ,dJ,hx] at k';exact k'⟩
     | false=>exact bw (by have k':=k;simp only [fJ,dJ,hx] at k';exact k')
    | some b =>
     refine⟨_,rfl,_,rfl,bw ?_⟩
     refine⟨_,rfl,p,_,1,_,rfl,rfl,hp,cS,_,rfl,?_⟩
     cases hi with
     | none =>
      refine bw ⟨_,rfl,_,rfl,?_⟩
      cases hx:decide (a<=a') with
      | true=>exact bh ⟨_,rfl,by have k':=k;simp only [fJ,dJ,hx] at k';exact k'⟩
      | false=>exact bw (by have k':=k;simp only [fJ,dJ,hx] at k';exact k')
     | some c =>
      refine bh ⟨_,rfl,p,_,1,_,rfl,rfl,hp,cS,_,rfl,_,_,rfl,rfl,?_⟩
      refine⟨_,rfl,_,rfl,?_⟩
      cases hx:decide (a<=a') with
      | true=>exact bh ⟨_,rfl,by have k':=k;simp only [fJ,dJ,hx,J7] at k';exact k'⟩
      | false=>exact bw (by have k':=k;simp only [fJ,dJ,hx,Kd] at k';exact k')
theorem xg {f:Addr} {fd:FuncData} (F:bR K "facts_of" "facts_of" mr f fd) (Z:Bl mg) {aA:Addr} (GA:iM K mg aA)  : bu P w K mg base bQ 1 f fd ["stretches"] (ny aA):=by
 refine F.ok (k:=0) xc (fun vs H Q E h=>?_) (fun cdv A outer s H vs Q E hr h=>?_)
 ·obtain⟨d,kvs,ks,T,rfl,_⟩:=h
  rfl
 ·obtain⟨d,kvs,ks,T,rfl,hd,tb,hl,q⟩:=h
  refine⟨_,(ai (ay (bg bE rfl Z.tuple cA (aH (eY ["name"] ["stretches"] [0] rfl (iC (bf (nh rfl) rfl Z.sorted hG (aH (pv 0)))) rfl (by decide +kernel) (by decide +kernel) (by decide +kernel) ⟨⟨rfl,.inl rfl,rfl⟩,True.intro⟩ (fun _ _ _ _=>(aB (i:=0) (show ((["name"]:List Str)++(["stretches"]:List Str)).Nodup by decide +kernel) (hf:=IG rfl))) (fun _ _ _ _=>(iF (aM (FG (aA:=aA) hr.units GA) (oz (dQ hr) (pv 1) (pv 0) (fun _ _=>rfl)) (gm (v:=.ref aA) rfl GA.qQ rfl) (aS _)))) (fun _ _ _ _=>(aV (aI (pv 0) (oz (dQ hr) (pv 1) (pv 0) (fun _ _=>rfl)))))))))),?_⟩
  refine⟨_,rfl,d,kvs,ks,rfl,hd,tb.keys,hl,fun l ss hp hs hn=>?_⟩
  have srt:ko ss:=⟨tZ hs,hp.nodup_iff.mpr tb.nd⟩
  have hl1:(upd H l (.lst (ss.map V.str))) l=some (.lst (ss.map V.str)):=aa
  have s1:ae H (upd H l (.lst (ss.map V.str))):=ae.new hn
  have hssl:ss.length<64:=by rw [hp.length_eq];exact hl
  generalize (upd H l (.lst (ss.map V.str)))=H1 at hl1 s1
  refine⟨l,rfl,⟨_,aN.of hl1⟩,fun acc na=>?_⟩
  refine lg (K:=K) (a:=l) (xs:=ss.map V.str) (fun i ys Ie H'=>∃c:Option V,Ie=[c,some (.ref d)]/\aR H' ys (((ss.take i).filter fun x=>!decide (T x=cO)).map (dF T))/\H' acc=some (.lst ys)/\ae H1 H') ?_ ?_ ?_ ?_
  ·exact⟨none,rfl,.nil,aa,ae.new na⟩
  ·rintro i ys Ie H2 hi ⟨c,rfl,r,ha,s2⟩
   refine⟨aN.of (s2 _ _ hl1),ha,?_⟩
   have h1:=r.len
   rw [Ig] at h1
   have h2:=Jr (fun x=>!decide (T x=cO)) (ss.take i)
   have h3:=List.length_take_le i ss
   have h4:(ss.take i).length<=ss.length:=by rw [IH];omega
   exact ba (by omega)
  ·rintro i x ys Ie H2 hi ⟨c,rfl,r,ha,s2⟩
   obtain⟨y,hy,rfl⟩:∃y,ss[i]?=some y/\x=V.str y:=by
    rw [Iu] at hi
    cases e:ss[i]? with
    | none=>rw [e] at hi;cases hi
    | some k=>rw [e] at hi;exact⟨k,rfl,(IA.inj hi).symm⟩
   have hym:y∈ks:=hp.mem_iff.mp (IB hy)
   have tk:ss.take (i+1)=ss.take i++[y]:=by rw [IP,hy];rfl
   obtain⟨v,ev,sv,_⟩:∃v,b8 kvs (Sum.inr y)=some v/\SV aA H v (T y)/\y∈ks:=by
    rcases tb.val y with ⟨_,_,c⟩ | h
    ·exact absurd hym c
    ·exact h
   have sv2:SV aA H2 v (T y):=sv.av fun p xs e=>s2 _ _ (s1 _ _ e)
   have hd2:H2 d=some (.dK kvs):=s2 _ _ (s1 _ _ hd)
   have dg:eI H2 d (.str y) (some v):=by
    have:=eI.k (k:=Sum.inr y) hd2
    rw [ev] at this
    exact this
   refine bx ?_
   refine⟨_,rfl,_,rfl,d,v,rfl,dg,T y,sv2,rfl,_,rfl,?_⟩
   by_cases hT:T y=cO
   ·refine bB (by rw [decide_eq_true hT];rfl) ?_
    refine⟨_,rfl,?_,ha,s2⟩
    rw [tk,Jv,Kb (by rw [decide_eq_true hT];decide),List.filter_nil,JF]
    exact r
   ·refine cC (by rw [decide_eq_false hT];rfl) ?_
    refine⟨_,rfl,_,rfl,_,rfl,d,v,rfl,dg,ln2,fun t nt=>?_⟩
    have s3:=ae.new (o:=.tup [.str y,v]) nt
    have ht:(upd H2 t (.tup [.str y,v])) t=some (.tup [.str y,v]):=aa
    generalize (upd H2 t (.tup [.str y,v]))=H3 at s3 ht
    have sh:SH H3 v (T y):=by
     rcases sv2 with h | ⟨_,h⟩
     ·exact h.av fun p xs e=>s3 _ _ e
     ·exact absurd h hT
    have ha3:=s3 _ _ ha
    refine⟨ha3,_,rfl,?_,aa,(s2.trans s3).put na⟩
    rw [tk,Jv,Kw (by rw [decide_eq_false hT];rfl),List.filter_nil,Iw]
    refine aR.app ((r.same s3 (lZ T _)).put ha3 (lZ T _)) ?_
    refine aL.av (H:=H3) (fun p zs e=>by rw [ao (bJ e ha3 (by intro z;cases z))];exact e) (.tup ht (.cons (.str y) (.cons sh.rd .nil))) ?_
    have:=lZ T [y]
    simpa [bX] using this
  ·rintro ys Ie H2 ⟨c,rfl,r,ha,s2⟩
   rw [Ig,II] at r
   refine⟨acc,ys,rfl,.inl ⟨aN.of ha,fun t nt=>?_⟩⟩
   refine q _ _ ⟨t,ys,_,rfl,aa,srt.filter _,fun x=>?_,r.same (ae.new nt) (lZ T _)⟩ ((s1.trans s2).trans (ae.new nt))
   rw [Jf]
   constructor
   ·rintro⟨_,h⟩ e
    rw [decide_eq_true e] at h
    cases h
   ·intro h
    refine⟨?_,by rw [decide_eq_false h];rfl⟩
    rcases tb.val x with ⟨_,a,_⟩ | ⟨_,_,_,a⟩
    ·exact absurd a h
    ·exact hp.mem_iff.mpr a
theorem CP {f:Addr} {fd:FuncData} (F:bR K "known" "known" sX f fd) (Z:Bl mg) {aA:Addr} (GA:iM K mg aA)  : bu P w K mg base bQ 1 f fd ["facts", "name"] (xT aA):=by
 refine F.ok (k:=0) CM (fun vs H Q E h=>?_) (fun cdv A outer s H vs Q E hr h=>?_)
 ·obtain⟨fv,x,T,rfl,_⟩:=h
  rfl
 ·obtain⟨fv,x,T,rfl,hf,q⟩:=h
  refine⟨_,(ai (ay (eW (dQ hr) (bg (fR rfl) rfl Z.dict oB (aH (pv 0))) (pv 1) (gm (v:=.ref aA) rfl GA.qQ rfl) ⟨rfl,rfl,rfl,rfl⟩))),?_⟩
  obtain⟨fp,xs,ss,rfl,hfp,srt,hmem,rf⟩:=hf
  obtain⟨kvs,l1,l2,l3,tb⟩:=FV.tb aA srt hmem rf
  refine⟨_,rfl,fp,xs,kvs,rfl,hfp,l1,l2,l3,fun d nd=>?_⟩
  obtain⟨v,ev,sv⟩:=tb.getD x
  exact⟨d,rfl,.inl ⟨kvs,.inl aa⟩,_,rfl,_,v,eI.k (k:=Sum.inr x) aa,ev,q v _ (sv.av fun p zs e=>ae.new nd _ _ e) (ae.new nd)⟩
theorem uS {f:Addr} {fd:FuncData} (F:bR K "with_known" "with_known" j4 f fd) (Z:Bl mg) {aA:Addr} (GA:iM K mg aA) (O_facts_of:Own P w K mg base "facts_of" 1 ["stretches"] (ny aA)):bu P w K mg base bQ 2 f fd ["facts", "name", "stretch"] (o7 aA):=by
 refine F.ok (k:=1) mO (fun vs H Q E h=>?_) (fun cdv A outer s H vs Q E hr h=>?_)
 ·obtain⟨fv,sv,x,T,s,rfl,_⟩:=h
  rfl
 ·obtain⟨fv,sv,x,T,s,rfl,hf,hs,bS,q⟩:=h
  refine⟨_,(af (aX (i:=3) mO.nd (bg (fR rfl) rfl Z.dict oB (aH (pv 0))))
   (af (gX (dQ hr) (pv 3) (pv 1) (pv 2) rfl)
   (ai (ay (aJ O_facts_of hr (aH (pv 3))))))),?_⟩
  obtain⟨fp,xs,ss,rfl,hfp,srt,hmem,rf⟩:=hf
  obtain⟨kvs,l1,l2,l3,tb⟩:=FV.tb aA srt hmem rf
  have hssl:ss.length<=62:=bS ss (fun x hx=>(hmem x).mp hx) srt.nd
  have kl:kvs.length=ss.length:=by have:=congrArg Jo tb.keys;simpa using this
  refine⟨_,rfl,fp,xs,kvs,rfl,hfp,l1,l2,l3,fun d nd=>?_⟩
  have k1:∀p zs,H p=some (.tup zs)->(upd H d (.dK kvs)) p=some (.tup zs):=fun p zs e=>ae.new nd _ _ e
  refine⟨_,rfl,_,rfl,_,rfl,d,_,rfl,jg.k (k:=Sum.inr x) aa (ba (by omega)),?_⟩
  obtain⟨ks2,t2,k2,m2⟩:=(tb.av k1).put x (hs.av k1)
  have hd1:(upd H d (.dK kvs)) d=some (.dK kvs):=aa
  refine⟨_,rfl,d,_,ks2,_,rfl,aa,t2.av (fun p zs e=>by rw [ao (bJ e hd1 (by intro z;cases z))];exact e),(by omega),fun v H2 f2 s2=>q v H2 f2 (((ae.new nd).put nd).trans s2)⟩
theorem AZ {f:Addr} {fd:FuncData} (F:bR K "covers" "covers" qh f fd) (Z:Bl mg) {aA:Addr} (GA:iM K mg aA) (O_is_within:Own P w K mg base "is_within" 1 ["one", "other"] (ug K)):bu P w K mg base bQ 2 f fd ["facts", "others"] v3:=by
 refine F.ok (k:=1) uH (fun vs H Q E h=>?_) (fun cdv A outer s H vs Q E hr h=>?_)
 ·obtain⟨fv,gv,T,U,rfl,_⟩:=h
  rfl
 ·obtain⟨fv,gv,T,U,rfl,hf,hg,bS,q⟩:=h
  refine⟨_,(af (aX (i:=2) uH.nd (bg (fR rfl) rfl Z.dict oB (aH (pv 1))))
   (ai (ay (bf (Ax rfl) rfl Z.all FH (aH (eY ["name", "stretch"] ["stretches"] [2] rfl (d9 (pv 0)) rfl (by decide +kernel) (by decide +kernel) (by decide +kernel) ⟨⟨rfl,.inl rfl,rfl⟩,True.intro⟩ (fun _ _ _ _=>(ox (K:=K) (n:=2) rfl (bU (n:=2) rfl (aG (aB (i:=0) (show ((["name", "stretch"]:List Str)++(["stretches"]:List Str)).Nodup by decide +kernel) (hf:=IG rfl)) (aG (aB (i:=1) (show ((["name", "stretch"]:List Str)++(["stretches"]:List Str)).Nodup by decide +kernel) (hf:=IG rfl)) bM))))) (fun _ _ _ _=>eB) (fun _ _ _ _=>(aJ O_is_within hr (aI (eW (dQ hr) (pv 2) (pv 0) (gm (v:=.ref aA) rfl GA.qQ rfl) ⟨rfl,rfl,rfl,rfl⟩) (pv 1)))))))))),?_⟩
  obtain⟨fp,xs,ss,rfl,hfp,srt,hmem,rf⟩:=hf
  obtain⟨gp,ys0,ss0,rfl,hgp,srt0,hmem0,rg⟩:=hg
  obtain⟨kvs,l1,l2,l3,tb⟩:=FV.tb aA srt0 hmem0 rg
  refine⟨_,rfl,gp,ys0,kvs,rfl,hgp,l1,l2,l3,fun d nd=>?_⟩
  have s0:=ae.new (o:=.dK kvs) nd
  have hd0:(upd H d (.dK kvs)) d=some (.dK kvs):=aa
  have rf2:=rf.same s0 (lZ T ss)
  have hfp2:=s0 _ _ hfp
  have tb2:=tb.av fun p zs e=>s0 _ _ e
  generalize (upd H d (.dK kvs))=HH at s0 hd0 rf2 hfp2 tb2
  refine⟨_,rfl,fp,rfl,⟨_,ar.of hfp2⟩,fun acc na=>?_⟩
  refine lh (K:=K) (a:=fp) (xs:=xs) (fun i ys Ie H'=>∃c1 c2:Option V,Ie=[c1,c2,some (.ref d)]/\ys=((ss.take i).map fun y=>jr (U y) (T y)).map V.bl/\H' acc=some (.lst ys)/\ae HH H') ?_ ?_ ?_ ?_
  ·exact⟨none,none,rfl,rfl,aa,ae.new na⟩
  ·rintro i ys Ie H1 hi ⟨c1,c2,rfl,rfl,ha,s1⟩
   refine⟨ar.of (s1 _ _ hfp2),ha,?_⟩
   rw [Ig,Ig,IH]
   have h1:=bS ss (fun x hx=>(hmem x).mp hx) srt.nd
   exact ba (by omega)
  ·rintro i x ys Ie H1 hi ⟨c1,c2,rfl,rfl,ha,s1⟩
   have hil:i<ss.length:=by
    have:=(IE.mp hi).1
    rw [rf2.len,Ig] at this
    exact this
   have hyi:ss[i]?=some ss[i]:=by simp [hil]
   generalize ss[i]=y at hyi
   obtain⟨v,hv,rd⟩:=rf2.get (i:=i) (d:=dF T y) (by rw [Iu,hyi];rfl)
   rw [hi] at hv
   cases hv
   obtain⟨t,q2,rfl,ht,hq2⟩:=FI rd
   refine⟨t,_,rfl,ar.of (s1 _ _ ht),rfl,_,_,rfl,_,_,rfl,rfl,?_⟩
   refine iI ?_
   refine bh ?_
   obtain⟨u,eu,su⟩:=(tb2.av fun p zs e=>s1 _ _ e).getD y
   obtain⟨qa,rfl,hqa⟩:=su.sq GA
   refine⟨_,rfl,d,rfl,.inl ⟨kvs,.inl (s1 _ _ hd0)⟩,_,rfl,_,_,eI.k (k:=Sum.inr y) (s1 _ _ hd0),eu,_,rfl,qa,q2,U y,T y,rfl,hqa,ar.of (s1 _ _ hq2),?_⟩
   refine⟨ha,_,_,rfl,?_,aa,s1.put na⟩
   rw [IP,hyi,KR,Iw,Iw]
   rfl
  ·rintro ys Ie H1 ⟨c1,c2,rfl,rfl,ha,s1⟩
   have hxl:xs.length=ss.length:=by rw [rf2.len,Ig]
   rw [hxl,II] at ha
   refine⟨acc,_,rfl,aN.of ha,?_⟩
   exact q _ H1 (AH hmem) (s0.trans s1)
theorem CQ {f:Addr} {fd:FuncData} (F:bR K "moved" "moved" sY f fd) (Z:Bl mg)  : bu P w K mg base bQ 1 f fd ["stretch", "number"] (xP K):=by
 refine F.ok (k:=0) qi (fun vs H Q E h=>?_) (fun cdv A outer s H vs Q E hr h=>?_)
 ·obtain⟨p,s,n,rfl,_⟩:=h
  rfl
 ·obtain⟨p,s,n,rfl,hp,q⟩:=h
  refine⟨_,(af (cD (pv 0) (bU rfl (aG (aB (i:=2) qi.nd) (aG (aB (i:=3) qi.nd) bM))))
   (ai (ay (aV (aI (fV (dz (fh (pv 2))) bW (bc cY (pv 2) (pv 1))) (fV (dz (fh (pv 3))) bW (bc cY (pv 3) (pv 1)))))))),?_⟩
  obtain⟨lo,hi⟩:=s
  refine⟨_,rfl,p,_,rfl,hp,rfl,_,_,rfl,_,_,rfl,rfl,?_⟩
  cases lo with
  | none =>
   refine⟨_,rfl,_,rfl,bh ?_⟩
   cases hi with
   | none=>exact⟨_,rfl,_,rfl,bh ⟨ln2,fun t nt=>q _ _ ⟨t,rfl,aa⟩ (ae.new nt)⟩⟩
   | some b=>exact⟨_,rfl,_,rfl,bw ⟨_,rfl,_,rfl,_,_,rfl,rfl,ln2,fun t nt=>q _ _ ⟨t,rfl,aa⟩ (ae.new nt)⟩⟩
  | some a =>
   refine⟨_,rfl,_,rfl,bw ⟨_,rfl,_,rfl,_,_,rfl,rfl,?_⟩⟩
   cases hi with
   | none=>exact⟨_,rfl,_,rfl,bh ⟨ln2,fun t nt=>q _ _ ⟨t,rfl,aa⟩ (ae.new nt)⟩⟩
   | some b=>exact⟨_,rfl,_,rfl,bw ⟨_,rfl,_,rfl,_,_,rfl,rfl,ln2,fun t nt=>q _ _ ⟨t,rfl,aa⟩ (ae.new nt)⟩⟩
theorem oU {f:Addr} {fd:FuncData} (F:bR K "stretch_behind" "stretch_behind" gU f fd) (Z:Bl mg) {aA:Addr} (GA:iM K mg aA) (O_moved:Own P w K mg base "moved" 1 ["stretch", "number"] (xP K)):bu P w K mg base bQ 2 f fd ["stretches", "deed"] (qZ aA):=by
  refine F.ok (k:=1) ju (fun vs H Q E h=>?_) (fun cdv A outer s H vs Q E hr h=>?_)
  . obtain⟨d,w,kvs,ks,T,dd,rfl,_⟩:=h
    rfl
  . obtain⟨d,w,kvs,ks,T,dd,rfl,hd,tb,hw,q⟩:=h
    refine⟨_,(af (eF (EO (i:=2) (j:=3) rfl ju.nd rfl rfl (by decide) rfl rfl (aI (aF aY (pv 1) ah) (aF aY (pv 1) ah)) rfl))
      (af (bo (aM bT (pv 2) bN (aS _))
      (ai (ay (aV (aI (aF aY (pv 1) ah) (aF aY (pv 1) ah)))))
      aQ)
      (af (bo (aM bT (pv 2) bN (aS _))
      (ai (ay (eW (dQ hr) (pv 0) (aF aY (pv 1) ah) (gm (v:=.ref aA) rfl GA.qQ rfl) ⟨rfl,rfl,rfl,rfl⟩)))
      aQ)
      (af (bo (aM bT (pv 2) bN (aS _))
      (ai (ay (aJ O_moved hr (aI (eW (dQ hr) (pv 0) (pv 3) (gm (v:=.ref aA) rfl GA.qQ rfl) ⟨rfl,rfl,rfl,rfl⟩) (aF aY (pv 1) ah)))))
      aQ)
      (af (bo (aM bT (pv 2) bN (aS _))
      (ai (ay (gm (v:=.ref aA) rfl GA.qQ rfl)))
      aQ)
      (ai (ay (eW (dQ hr) (pv 0) (pv 3) (gm (v:=.ref aA) rfl GA.qQ rfl) ⟨rfl,rfl,rfl,rfl⟩)))))))),?_⟩
    cases dd
    case put x n =>
      refine⟨fun σ' H'=>σ' = [some (.ref d),some (.ref w),some (.str "put"),some (.str x)]/\H=H',⟨_,rfl,w,_,0,_,rfl,rfl,ar.of hw,cg,_,rfl,w,_,1,_,rfl,rfl,ar.of hw,cS,_,_,rfl,rfl,rfl⟩,?_⟩
      rintro σ' H' ⟨rfl,rfl⟩
      refine⟨_,rfl,rfl,_,rfl,?_⟩
      refine cC (show decide (V.str "put" = V.str "put")=true by decide +kernel) ?_
      exact⟨_,rfl,w,_,2,_,rfl,rfl,ar.of hw,at2,_,rfl,w,_,2,_,rfl,rfl,ar.of hw,at2,ln2,fun t nt=>q _ _ (.inl ⟨t,rfl,aa⟩) (ae.new nt)⟩
    case copy x y =>
      refine⟨fun σ' H'=>σ' = [some (.ref d),some (.ref w),some (.str "copy"),some (.str x)]/\H=H',⟨_,rfl,w,_,0,_,rfl,rfl,ar.of hw,cg,_,rfl,w,_,1,_,rfl,rfl,ar.of hw,cS,_,_,rfl,rfl,rfl⟩,?_⟩
      rintro σ' H' ⟨rfl,rfl⟩
      refine⟨_,rfl,rfl,_,rfl,?_⟩
      refine bB (show decide (V.str "copy" = V.str "put")=false by decide +kernel) ?_
      refine⟨_,rfl,rfl,_,rfl,?_⟩
      refine cC (show decide (V.str "copy" = V.str "copy")=true by decide +kernel) ?_
      obtain⟨v,ev,sv⟩:=tb.getD y
      exact⟨_,rfl,d,rfl,.inl ⟨kvs,.inl hd⟩,_,rfl,w,_,2,_,rfl,rfl,ar.of hw,at2,_,v,eI.k (k:=Sum.inr y) hd,ev,q _ _ sv (ae.refl H)⟩
    case add x n =>
      refine⟨fun σ' H'=>σ' = [some (.ref d),some (.ref w),some (.str "add"),some (.str x)]/\H=H',⟨_,rfl,w,_,0,_,rfl,rfl,ar.of hw,cg,_,rfl,w,_,1,_,rfl,rfl,ar.of hw,cS,_,_,rfl,rfl,rfl⟩,?_⟩
      rintro σ' H' ⟨rfl,rfl⟩
      refine⟨_,rfl,rfl,_,rfl,?_⟩
      refine bB (show decide (V.str "add" = V.str "put")=false by decide +kernel) ?_
      refine⟨_,rfl,rfl,_,rfl,?_⟩
      refine bB (show decide (V.str "add" = V.str "copy")=false by decide +kernel) ?_
      refine⟨_,rfl,rfl,_,rfl,?_⟩
      refine cC (show decide (V.str "add" = V.str "add")=true by decide +kernel) ?_
      obtain⟨v,ev,sv⟩:=tb.getD x
      obtain⟨qa,rfl,hqa⟩:=sv.sq GA
      exact⟨_,rfl,d,rfl,.inl ⟨kvs,.inl hd⟩,_,rfl,_,_,eI.k (k:=Sum.inr x) hd,ev,_,rfl,w,_,2,_,rfl,rfl,ar.of hw,at2,qa,T x,n,rfl,hqa,fun v H' sh s1=>q _ _ (.inl sh) s1⟩
    case read x =>
      refine⟨fun σ' H'=>σ' = [some (.ref d),some (.ref w),some (.str "read"),some (.str x)]/\H=H',⟨_,rfl,w,_,0,_,rfl,rfl,ar.of hw,cg,_,rfl,w,_,1,_,rfl,rfl,ar.of hw,cS,_,_,rfl,rfl,rfl⟩,?_⟩
      rintro σ' H' ⟨rfl,rfl⟩
      refine⟨_,rfl,rfl,_,rfl,?_⟩
      refine bB (show decide (V.str "read" = V.str "put")=false by decide +kernel) ?_
      refine⟨_,rfl,rfl,_,rfl,?_⟩
      refine bB (show decide (V.str "read" = V.str "copy")=false by decide +kernel) ?_
      refine⟨_,rfl,rfl,_,rfl,?_⟩
      refine bB (show decide (V.str "read" = V.str "add")=false by decide +kernel) ?_
      refine⟨_,rfl,rfl,_,rfl,?_⟩
      refine cC (show decide (V.str "read" = V.str "read")=true by decide +kernel) ?_
      exact q _ _ (.inr ⟨rfl,rfl⟩) (ae.refl H)
    case tell x =>
      refine⟨fun σ' H'=>σ' = [some (.ref d),some (.ref w),some (.str "tell"),some (.str x)]/\H=H',⟨_,rfl,w,_,0,_,rfl,rfl,ar.of hw,cg,_,rfl,w,_,1,_,rfl,rfl,ar.of hw,cS,_,_,rfl,rfl,rfl⟩,?_⟩
      rintro σ' H' ⟨rfl,rfl⟩
      refine⟨_,rfl,rfl,_,rfl,?_⟩
      refine bB (show decide (V.str "tell" = V.str "put")=false by decide +kernel) ?_
      refine⟨_,rfl,rfl,_,rfl,?_⟩
      refine bB (show decide (V.str "tell" = V.str "copy")=false by decide +kernel) ?_
      refine⟨_,rfl,rfl,_,rfl,?_⟩
      refine bB (show decide (V.str "tell" = V.str "add")=false by decide +kernel) ?_
      refine⟨_,rfl,rfl,_,rfl,?_⟩
      refine bB (show decide (V.str "tell" = V.str "read")=false by decide +kernel) ?_
      obtain⟨v,ev,sv⟩:=tb.getD x
      exact⟨_,rfl,d,rfl,.inl ⟨kvs,.inl hd⟩,_,rfl,_,v,eI.k (k:=Sum.inr x) hd,ev,q _ _ sv (ae.refl H)⟩
theorem A0 {f:Addr} {fd:FuncData} (F:bR K "behind" "behind" qm f fd) (Z:Bl mg) {aA:Addr} (GA:iM K mg aA) (O_stretch_behind:Own P w K mg base "stretch_behind" 2 ["stretches", "deed"] (qZ aA)) (O_facts_of:Own P w K mg base "facts_of" 1 ["stretches"] (ny aA)):bu P w K mg base bQ 3 f fd ["facts", "deeds"] nQ:=by
 refine F.ok (k:=2) nX (fun vs H Q E h=>?_) (fun cdv A outer s H vs Q E hr h=>?_)
 ·obtain⟨fv,p,ws,ds,T,pool,rfl,_⟩:=h
  rfl
 ·obtain⟨fv,p,ws,ds,T,pool,rfl,hf,hp,r,tok,dok,h64,q⟩:=h
  refine⟨_,(af (aX (i:=2) nX.nd (bg (fR rfl) rfl Z.dict oB (aH (pv 0))))
   (af (dA PassesOwn.never rfl (d9 (pv 1)) (aB (i:=3) nX.nd)
   (ai (gX (dQ hr) (pv 2) (aF aY (pv 3) ah) (aJ O_stretch_behind hr (aI (pv 2) (pv 3))) rfl)))
   (ai (ay (aJ O_facts_of hr (aH (pv 2))))))),?_⟩
  obtain⟨fp,xs,ss,rfl,hfp,srt,hmem,rf⟩:=hf
  obtain⟨kvs,l1,l2,l3,tb⟩:=FV.tb aA srt hmem rf
  have hssl:∀x∈ss,x∈pool:=fun x hx=>tok.sup x ((hmem x).mp hx)
  refine⟨_,rfl,fp,xs,kvs,rfl,hfp,l1,l2,l3,fun d nd=>?_⟩
  have tb1:Tb aA (upd H d (.dK kvs)) kvs ss T:=tb.av fun p xs e=>ae.new nd _ _ e
  refine⟨_,rfl,p,rfl,⟨_,ar.of (ae.new nd _ _ hp)⟩,fM (K:=K) (a:=p) (xs:=ws) (fun i Ic H'=>∃(c:Option V) (kvs':List (Key×V)) (ks':List Str),Ic=[some (.ref fp),some (.ref p),some (.ref d),c]/\H' d=some (.dK kvs')/\Tb aA H' kvs' ks' (bp T (ds.take i))/\(∀y∈ks',y∈pool)/\ae H H') ?_ ?_ ?_ ?_⟩
  ·exact⟨none,kvs,ss,rfl,aa,tb1,hssl,ae.new nd⟩
  ·rintro i Ic H1 hi ⟨c,kvs1,ks1,rfl,h1,t1,k1,s1⟩
   exact ar.of (s1 _ _ hp)
  ·rintro i x Ic H1 hi ⟨c,kvs1,ks1,rfl,h1,t1,k1,s1⟩
   have hil:i<ds.length:=by
    have:=(IE.mp hi).1
    rw [r.len,Ig] at this
    exact this
   have hdi:ds[i]?=some ds[i]:=by simp [hil]
   generalize ds[i]=dd at hdi
   obtain⟨v,hv,rd⟩:=r.get (i:=i) (d:=cn dd) (by rw [Iu,hdi];rfl)
   rw [hi] at hv
   cases hv
   obtain⟨dp,rfl,hdp⟩:=gY rd
   have tk:bp T (ds.take (i+1))=za (bp T (ds.take i)) dd:=by
    unfold bp
    rw [IP,hdi,KR,J9]
    rfl
   refine bx ?_
   refine⟨_,rfl,_,rfl,d,dp,kvs1,ks1,_,dd,rfl,h1,t1,s1 _ _ hdp,fun v H2 sv s2=>?_⟩
   have h2:=s2 _ _ h1
   have kl:kvs1.length=ks1.length:=by have:=congrArg Jo t1.keys;simpa using this
   have kl2:=sub_len t1.nd k1
   refine⟨_,rfl,_,rfl,dp,_,1,_,rfl,rfl,ar.of (s2 _ _ (s1 _ _ hdp)),vL dd,d,_,rfl,jg.k (k:=Sum.inr (ff dd)) h2 (ba (by omega)),?_⟩
   obtain⟨ks2,t2,_,k2⟩:=(t1.av fun p xs e=>s2 _ _ e).put (ff dd) sv
   have hdn:ff dd∈pool:=(dok dd (IB hdi)).name
   refine⟨_,_,ks2,rfl,aa,?_,(fun y hy=>((k2 y).mp hy).elim (k1 y) fun e=>e ▸ hdn),(s1.trans s2).put nd⟩
   rw [tk]
   exact t2.av fun p xs e=>by rw [ao (bJ e h2 (by intro z;cases z))];exact e
  ·rintro Ic H1 ⟨c,kvs1,ks1,rfl,h1,t1,k1,s1⟩
   have hwl:ws.length=ds.length:=by rw [r.len,Ig]
   rw [hwl,II] at t1
   refine⟨_,rfl,d,kvs1,ks1,_,rfl,h1,t1,(by have:=sub_len t1.nd k1;omega),fun v H2 f2 s2=>q v H2 f2 (s1.trans s2)⟩
theorem rV {f:Addr} {fd:FuncData} (F:bR K "known_beyond" "known_beyond" iR f fd) (Z:Bl mg) {aA:Addr} (GA:iM K mg aA) (O_ways_on:Own P w K mg base "ways_on" 3 ["end"] lj) (O_known:Own P w K mg base "known" 1 ["facts", "name"] (xT aA)) (O_part_of:Own P w K mg base "part_of" 3 ["stretch", "word", "number", "side"] (xV K)) (O_with_known:Own P w K mg base "with_known" 2 ["facts", "name", "stretch"] (o7 aA)):bu P w K mg base bQ 4 f fd ["facts", "end"] (v5 aA):=by
  refine F.ok (k:=3) dG (fun vs H Q E h=>?_) (fun cdv A outer s H vs Q E hr h=>?_)
  . obtain⟨fv,ea,T,e,rfl,_⟩:=h
    rfl
  . obtain⟨fv,ea,T,e,rfl,hf,he,bS,q⟩:=h
    refine⟨_,(af (aX (i:=2) dG.nd (aJ O_ways_on hr (aH (pv 1))))
      (af (bo (aM hZ (bf aZ rfl Z.len bZ (aH (pv 2))) ah (aS _))
      (ai (ay (bg bE rfl Z.tuple cA (aH (eY ["way"] ["facts"] [0] rfl (d9 (pv 2)) rfl (by decide +kernel) (by decide +kernel) (by decide +kernel) ⟨⟨rfl,.inl rfl,rfl⟩,True.intro⟩ (fun _ _ _ _=>(aB (i:=0) (show ((["way"]:List Str)++(["facts"]:List Str)).Nodup by decide +kernel) (hf:=IG rfl))) (fun _ _ _ _=>eB) (fun _ _ _ _=>(pv 1)))))))
      aQ)
      (af (eF (cD (aV (fb (aF aY (pv 1) ah) (aF aY (pv 1) ah) (aF aY (pv 1) ah))) (bU rfl (aG (aB (i:=3) dG.nd) (aG (aB (i:=4) dG.nd) (aG (aB (i:=5) dG.nd) bM))))))
      (af (aX (i:=6) dG.nd (aJ O_known hr (aI (pv 0) (pv 4))))
      (af (eZ (i:=7) ["side"] ["stretch", "word", "number"] [6,3,5] rfl dG.nd rfl rfl rfl (d9 (aV (aI gP gP))) rfl (by decide +kernel) (by decide +kernel) (by decide +kernel) ⟨⟨rfl,.inl rfl,rfl⟩,⟨⟨rfl,.inl rfl,rfl⟩,⟨⟨rfl,.inl rfl,rfl⟩,True.intro⟩⟩⟩ (fun _ _ _ _=>(aB (i:=0) (show ((["side"]:List Str)++(["stretch", "word", "number"]:List Str)).Nodup by decide +kernel) (hf:=IG rfl))) (fun _ _ _ _=>eB) (fun _ _ _ _=>(aJ O_part_of hr (wo (pv 1) (pv 2) (pv 3) (pv 0)))))
      (ai (ay (bg bE rfl Z.tuple cA (aH (eY ["part"] ["facts", "name"] [0,4] rfl (iC (pv 7)) rfl (by decide +kernel) (by decide +kernel) (by decide +kernel) ⟨⟨rfl,.inl rfl,rfl⟩,⟨⟨rfl,.inl rfl,rfl⟩,True.intro⟩⟩ (fun _ _ _ _=>(aB (i:=0) (show ((["part"]:List Str)++(["facts", "name"]:List Str)).Nodup by decide +kernel) (hf:=IG rfl))) (fun _ _ _ _=>eB) (fun _ _ _ _=>(fV (dz (fh (pv 0))) bW (aJ O_with_known hr (fb (pv 1) (pv 2) (pv 0))))))))))))))),?_⟩
    refine⟨_,rfl,ea,e,rfl,he,fun wt H1 hw s1=>?_⟩
    have he1:=s1 _ _ he
    have hf1:=hf.same s1
    refine⟨_,rfl,wt,_,rfl,.inr (ar.of hw),_,_,rfl,rfl,_,rfl,?_⟩
    by_cases hl:(bH e).length<2
    . refine cC (decide_eq_true (by rw [Ig];omega)) ?_
      refine⟨_,rfl,wt,rfl,⟨_,ar.of hw⟩,fun acc na=>?_⟩
      refine lh (K:=K) (a:=wt) (xs:=(bH e).map fun k=>V.int (k:Nat)) (fun i zs Ie H'=>∃c:Option V,Ie=[c,some fv]/\zs=IX i fv/\H' acc=some (.lst zs)/\ae H1 H') ?_ ?_ ?_ ?_
      . exact⟨none,rfl,rfl,aa,ae.new na⟩
      . rintro i zs Ie H2 hi ⟨c,rfl,rfl,ha,s2⟩
        refine⟨ar.of (s2 _ _ hw),ha,?_⟩
        rw [Ki]
        rw [Ig] at hi
        exact ba (by omega)
      . rintro i x zs Ie H2 hi ⟨c,rfl,rfl,ha,s2⟩
        refine bx ?_
        refine iI ?_
        refine bh ?_
        refine⟨_,rfl,ha,_,rfl,?_,aa,s2.put na⟩
        rw [<-List.replicate_succ']
      . rintro zs Ie H2 ⟨c,rfl,rfl,ha,s2⟩
        rw [Ig] at ha
        refine⟨acc,_,rfl,.inl ⟨aN.of ha,fun t nt=>?_⟩⟩
        refine q t _ _ aa ?_ ((s1.trans s2).trans (ae.new nt))
        rw [Eh hl]
        exact xW (hf1.same (s2.trans (ae.new nt))) _
    . refine bB (decide_eq_false (by rw [Ig];omega)) ?_
      cases e with
      | stop=>exact absurd (by show 0<2;omega) hl
      | go p=>exact absurd (by show 1<2;omega) hl
      | cm b x n p r =>
        refine⟨fun σ' H'=>σ' = [some fv,some (.ref ea),some (.ref wt),some (.str (wT b)),some (.str x),some (.int n),none,none]/\ae H1 H',?_,?_⟩
        . refine⟨_,rfl,ea,_,0,_,rfl,rfl,ar.of he1,cg,_,rfl,ea,_,1,_,rfl,rfl,ar.of he1,cS,_,rfl,ea,_,2,_,rfl,rfl,ar.of he1,at2,tQ,fun tt htt=>?_⟩
          exact⟨tt,_,rfl,ar.of aa,rfl,_,_,rfl,_,_,rfl,_,_,rfl,rfl,rfl,ae.new htt⟩
        rintro σ' H2 ⟨rfl,s2⟩
        refine⟨_,rfl,_,rfl,fv,x,T,rfl,hf1.same s2,fun sv H3 hsv s3=>?_⟩
        obtain⟨sp,rfl,hsp⟩:=hsv.sq GA
        have s13:=s2.trans s3
        refine⟨ln2,fun st hst=>⟨st,rfl,⟨_,ar.of aa⟩,fun acc na=>?_⟩⟩
        have s4:=ae.new (o:=.tup [.bl true,.bl false]) hst
        have hst4:(upd H3 st (.tup [.bl true,.bl false])) st=some (.tup [.bl true,.bl false]):=aa
        generalize (upd H3 st (.tup [.bl true,.bl false]))=H4 at s4 hst4 na
        refine lh (K:=K) (a:=st) (xs:=[.bl true,.bl false]) (fun i zs Ie H'=>∃c:Option V,Ie=[c,some (.ref sp),some (.str (wT b)),some (.int n)]/\o8 H' zs ([de T b x n true,de T b x n false].take i)/\H' acc=some (.lst zs)/\ae H4 H') ?_ ?_ ?_ ?_
        . exact⟨none,rfl,.nil,aa,ae.new na⟩
        . rintro i zs Ie H5 hi ⟨c,rfl,rv,ha,s5⟩
          refine⟨ar.of (s5 _ _ hst4),ha,?_⟩
          have h1:=Paired.length rv
          rw [IH] at h1
          exact ba (by rw [h1];exact Ir (Nat.min_le_right _ _) (by show 2<=1000;decide))
        . rintro i y zs Ie H5 hi ⟨c,rfl,rv,ha,s5⟩
          obtain⟨side,rfl,hsd⟩:∃side:Bool,y=.bl side/\[de T b x n true,de T b x n false][i]?=some (de T b x n side):=by
            match i,hi with
            | 0,hi=>cases hi;exact⟨true,rfl,rfl⟩
            | 1,hi=>cases hi;exact⟨false,rfl,rfl⟩
            | i+2,hi=>simp at hi
          refine bx ?_
          refine iI ?_
          refine bh ?_
          refine⟨_,rfl,_,rfl,_,rfl,_,rfl,sp,wT b,n,side,_,_,rfl,hsp.same (s4.trans s5),fun v H6 r6 s6=>?_⟩
          have ha6:=s6 _ _ ha
          refine⟨ha6,_,rfl,?_,aa,(s5.trans s6).put na⟩
          rw [IP,hsd]
          exact dE ((rv.same s6).put ha6) (.cons (RV.put r6 ha6) .nil)
        . rintro zs Ie H5 ⟨c,rfl,rv,ha,s5⟩
          have s15:=s13.trans (s4.trans s5)
          have rv:o8 H5 zs [de T b x n true,de T b x n false]:=rv
          have rvl:zs.length=2:=Paired.length rv
          refine⟨_,rfl,acc,rfl,⟨_,aN.of ha⟩,fun ac2 na2=>?_⟩
          refine lg (K:=K) (a:=acc) (xs:=zs) (fun i us Ie H'=>∃c:Option V,Ie=[c,some fv,some (.str x)]/\mL H' us ((iN T (.cm b x n p r)).take i)/\H' ac2=some (.lst us)/\ae H5 H') ?_ ?_ ?_ ?_
          . exact⟨none,rfl,.nil,aa,ae.new na2⟩
          . rintro i us Ie H6 hi ⟨c,rfl,bv,ha2,s6⟩
            refine⟨aN.of (s6 _ _ ha),ha2,?_⟩
            have h1:=Paired.length bv
            rw [IH] at h1
            exact ba (by rw [h1];exact Ir (Nat.min_le_right _ _) (by show 2<=1000;decide))
          . rintro i y us Ie H6 hi ⟨c,rfl,bv,ha2,s6⟩
            obtain⟨rs,hrs,hry⟩:=fC rv hi
            have hb:(iN T (.cm b x n p r))[i]?=some (rs.map (cb T x)):=by
              show ([de T b x n true,de T b x n false].map fun z:Rs=>Option.map (cb T x) z)[i]?=_
              rw [Iu,hrs];rfl
            refine bx ?_
            refine iI ?_
            refine bh ?_
            cases rs with
            | none =>
              cases (show y=V.aT from hry)
              refine⟨_,rfl,_,rfl,bh ?_⟩
              refine⟨ha2,_,rfl,?_,aa,s6.put na2⟩
              rw [IP,hb]
              refine dE (bv.av fun p zs e=>?_) (.cons rfl .nil)
              rw [ao (bJ e ha2 (by intro z;cases z))];exact e
            | some s =>
              have hsv6:SV aA H6 y s:=RV.sv (hry.same s6)
              obtain⟨yp,rfl,hyp⟩:∃yp,y=.ref yp/\True:=by
                obtain⟨a1,b1⟩:=s
                obtain⟨yp,e,_⟩:=hry
                exact⟨yp,e,trivial⟩
              refine⟨_,rfl,_,rfl,bw ?_⟩
              refine⟨_,rfl,_,rfl,_,rfl,fv,.ref yp,x,T,s,rfl,hf1.same (s13.trans (s4.trans (s5.trans s6))),hsv6,bS,fun v H7 f7 s7=>?_⟩
              have ha7:=s7 _ _ ha2
              refine⟨ha7,_,rfl,?_,aa,(s6.trans s7).put na2⟩
              rw [IP,hb]
              have kt:∀p zs,H7 p=some (.tup zs)->(upd H7 ac2 (.lst (us++[v]))) p=some (.tup zs):=fun p zs e=>by rw [ao (bJ e ha7 (by intro z;cases z))];exact e
              exact dE ((bv.same s7).av kt) (.cons (FV.av f7 kt) .nil)
          . rintro us Ie H6 ⟨c,rfl,bv,ha2,s6⟩
            rw [rvl] at bv
            refine⟨ac2,_,rfl,.inl ⟨aN.of ha2,fun t nt=>?_⟩⟩
            exact q t _ _ aa (mL.same (show mL H6 us (iN T (.cm b x n p r)) from bv) (ae.new nt)) ((s1.trans (s15.trans s6)).trans (ae.new nt))
theorem CS {f:Addr} {fd:FuncData} (F:bR K "leads" "leads" sZ f fd) (Z:Bl mg) (O_known_beyond:Own P w K mg base "known_beyond" 4 ["facts", "end"] (v5 aA)) (O_ways_on:Own P w K mg base "ways_on" 3 ["end"] lj):bu P w K mg base bQ 5 f fd ["facts", "end"] (sO aA):=by
 refine F.ok (k:=4) wH (fun vs H Q E h=>?_) (fun cdv A outer s H vs Q E hr h=>?_)
 ·obtain⟨fv,ea,T,e,rfl,_⟩:=h
  rfl
 ·obtain⟨fv,ea,T,e,rfl,hf,he,bS,q⟩:=h
  refine⟨_,(af (aX (i:=2) wH.nd (aJ O_known_beyond hr (aI (pv 0) (pv 1))))
   (ai (ay (bg bE rfl Z.tuple cA (aH (eY ["way", "there"] [] [] rfl (zZ rfl Z.zip (aI (aJ O_ways_on hr (aH (pv 1))) (pv 2))) rfl (by decide +kernel) (by decide +kernel) (by decide +kernel) True.intro (fun _ _ _ _=>(ox (K:=K) (n:=2) rfl (bU (n:=2) rfl (aG (aB (i:=0) (show ((["way", "there"]:List Str)++([]:List Str)).Nodup by decide +kernel) (hf:=IG rfl)) (aG (aB (i:=1) (show ((["way", "there"]:List Str)++([]:List Str)).Nodup by decide +kernel) (hf:=IG rfl)) bM))))) (fun _ _ _ _=>(iF (dz (dY (pv 1))))) (fun _ _ _ _=>(aV (aI (pv 0) (pv 1)))))))))),?_⟩
  refine⟨_,rfl,_,rfl,fv,ea,T,e,rfl,hf,he,bS,fun bt us H1 hb bv s1=>?_⟩
  refine⟨_,rfl,ea,e,rfl,s1 _ _ he,fun wt H2 hw s2=>?_⟩
  have hb2:=s2 _ _ hb
  have bv2:=bv.same s2
  refine⟨_,rfl,wt,bt,rfl,⟨_,ar.of hw⟩,⟨_,ar.of hb2⟩,fun acc na=>?_⟩
  refine z5 (K:=K) (a:=wt) (b:=bt) (xs:=(bH e).map fun k=>V.int (k:Nat)) (ys:=us) (fun i zs Ie H'=>∃(c1 c2:Option V),Ie=[c1,c2]/\nH H' zs ((((bH e).zip (iN T e)).take i).filterMap fun p=>p.2.map fun U=>(p.1,U))/\zs.length<=i/\H' acc=some (.lst zs)/\ae H2 H') ?_ ?_ ?_ ?_
  ·exact⟨none,none,rfl,.nil,Ij _,aa,ae.new na⟩
  ·rintro i zs Ie H3 hi ⟨c1,c2,rfl,pv,hz,ha,s3⟩
   refine⟨ar.of (s3 _ _ hw),ar.of (s3 _ _ hb2),ha,?_⟩
   have h1:i<=(bH e).length:=by rw [Ig] at hi;omega
   have h2:(bH e).length<=2:=by cases e <;> (show _<=2) <;> simp [bH]
   exact ba (by omega)
  ·rintro i x y zs Ie H3 u hx hy hu ⟨c1,c2,rfl,pv,hz,ha,s3⟩
   obtain⟨k,hk,rfl⟩:∃k,(bH e)[i]?=some k/\x=V.int (k:Nat):=by
    rw [Iu] at hx
    cases z:(bH e)[i]? with
    | none=>rw [z] at hx;cases hx
    | some k=>rw [z] at hx;exact⟨k,rfl,(IA.inj hx).symm⟩
   obtain⟨o,ho,hyo⟩:=fC bv2 hy
   have hnext:=AJ (T:=T) hk ho
   have su:=ae.new (o:=.tup [.int (k:Nat),y]) hu
   have hu4:(upd H3 u (.tup [.int (k:Nat),y])) u=some (.tup [.int (k:Nat),y]):=aa
   generalize (upd H3 u (.tup [.int (k:Nat),y]))=H4 at su hu4
   refine⟨u,_,rfl,ar.of hu4,rfl,_,_,rfl,_,_,rfl,rfl,?_⟩
   refine⟨_,rfl,_,rfl,?_⟩
   cases o with
   | none =>
    cases (show y=V.aT from hyo)
    refine bw ?_
    refine⟨_,_,rfl,?_,KA hz,su _ _ ha,s3.trans su⟩
    rw [hnext]
    simpa using pv.same su
   | some U =>
    obtain⟨yp,zsy,ssy,rfl,_⟩:=id hyo
    refine bh ?_
    refine⟨_,rfl,_,rfl,ln2,fun t nt=>?_⟩
    have s5:=ae.new (o:=.tup [.int (k:Nat),.ref yp]) nt
    have ht:(upd H4 t (.tup [.int (k:Nat),.ref yp])) t=some (.tup [.int (k:Nat),.ref yp]):=aa
    generalize (upd H4 t (.tup [.int (k:Nat),.ref yp]))=H5 at s5 ht
    have ha5:=s5 _ _ (su _ _ ha)
    have kt:∀p ws,H5 p=some (.tup ws)->(upd H5 acc (.lst (zs++[V.ref t]))) p=some (.tup ws):=fun p ws e=>by rw [ao (bJ e ha5 (by intro z;cases z))];exact e
    refine⟨ha5,_,_,rfl,?_,(by rw [Io];show _+1<=_;omega),aa,(s3.trans (su.trans s5)).put na⟩
    rw [hnext]
    exact dE ((pv.same (su.trans s5)).av kt) (.cons ⟨t,.ref yp,rfl,kt _ _ ht,FV.av (FV.same hyo (s3.trans (su.trans s5))) kt⟩ .nil)
  ·rintro zs Ie H3 ⟨c1,c2,rfl,pv,hz,ha,s3⟩
   have hm:min ((bH e).map fun k=>V.int (k:Nat)).length us.length=((bH e).zip (iN T e)).length:=by
    rw [List.length_zip,Ig,Paired.length bv2]
   rw [hm,II] at pv
   refine⟨acc,_,rfl,.inl ⟨aN.of ha,fun t nt=>?_⟩⟩
   exact q t zs _ aa (nH.same (show nH H3 zs (cx T e) from pv) (ae.new nt)) (((s1.trans s2).trans s3).trans (ae.new nt))
theorem CT {f:Addr} {fd:FuncData} (F:bR K "start" "start" tf f fd) (Z:Bl mg) (O_names_of:Own P w K mg base "names_of" 3 ["plan"] tX):bu P w K mg base bQ 4 f fd ["plan"] xX:=by
 refine F.ok (k:=3) CN (fun vs H Q E h=>?_) (fun cdv A outer s H vs Q E hr h=>?_)
 ·obtain⟨plv,ps,xs,m,rfl,_⟩:=h
  rfl
 ·obtain⟨plv,ps,xs,m,rfl,hp,bY,hx,hal,q⟩:=h
  refine⟨_,(ai (ay (bg bE rfl Z.tuple cA (aH (eY ["name"] [] [] rfl (d9 (aJ O_names_of hr (aH (pv 0)))) rfl (by decide +kernel) (by decide +kernel) (by decide +kernel) True.intro (fun _ _ _ _=>(aB (i:=0) (show ((["name"]:List Str)++([]:List Str)).Nodup by decide +kernel) (hf:=IG rfl))) (fun _ _ _ _=>eB) (fun _ _ _ _=>(aV (aI (pv 0) (aV (aI ah ah)))))))))),?_⟩
  refine⟨_,rfl,plv,ps,xs,m,rfl,hp,bY,hx,hal,fun nt ss H1 hnt hperm hsort hsl s1=>?_⟩
  refine⟨nt,rfl,⟨_,ar.of hnt⟩,fun acc na=>?_⟩
  refine lh (K:=K) (a:=nt) (xs:=ss.map V.str) (fun i zs Ie H'=>∃c:Option V,Ie=[c]/\aR H' zs ((ss.take i).map fun x=>.tuple [.str x,.tuple [.int 0,.int 0]])/\H' acc=some (.lst zs)/\ae H1 H') ?_ ?_ ?_ ?_
  ·exact⟨none,rfl,.nil,aa,ae.new na⟩
  ·rintro i zs Ie H2 hi ⟨c,rfl,r,ha,s2⟩
   refine⟨ar.of (s2 _ _ hnt),ha,?_⟩
   have h1:=r.len
   rw [Ig,IH] at h1
   exact ba (by omega)
  ·rintro i x zs Ie H2 hi ⟨c,rfl,r,ha,s2⟩
   obtain⟨y,hy,rfl⟩:∃y,ss[i]?=some y/\x=V.str y:=by
    rw [Iu] at hi
    cases e:ss[i]? with
    | none=>rw [e] at hi;cases hi
    | some k=>rw [e] at hi;exact⟨k,rfl,(IA.inj hi).symm⟩
   refine bx ?_
   refine iI ?_
   refine bh ?_
   refine⟨_,rfl,ln2,fun t1 n1=>⟨ln2,fun t2 n2=>?_⟩⟩
   have q1:=ae.new (o:=.tup [.int 0,.int 0]) n1
   have q2:=ae.new (o:=.tup [.str y,.ref t1]) n2
   have ha3:=q2 _ _ (q1 _ _ ha)
   have kt:∀p ws,(upd (upd H2 t1 (.tup [.int 0,.int 0])) t2 (.tup [.str y,.ref t1])) p=some (.tup ws)->(upd (upd (upd H2 t1 (.tup [.int 0,.int 0])) t2 (.tup [.str y,.ref t1])) acc (.lst (zs++[V.ref t2]))) p=some (.tup ws):=fun p ws e=>by rw [ao (bJ e ha3 (by intro z;cases z))];exact e
   refine⟨ha3,_,rfl,?_,aa,((s2.trans q1).trans q2).put na⟩
   rw [IP,hy,Iw]
   exact (((r.same q1 (hR _)).same q2 (hR _)).av kt (hR _)).app (.tup (kt _ _ aa) (.cons (.str _) (.cons (.tup (kt _ _ (q2 _ _ aa)) (.cons (.int _) (.cons (.int _) .nil))) .nil)))
  ·rintro zs Ie H2 ⟨c,rfl,r,ha,s2⟩
   rw [Ig,II] at r
   refine⟨acc,_,rfl,.inl ⟨aN.of ha,fun t ht=>?_⟩⟩
   exact q (.ref t) ss _ (.tup aa (r.same (ae.new ht) (hR _))) hperm hsort ((s1.trans s2).trans (ae.new ht))
theorem rW {f:Addr} {fd:FuncData} (F:bR K "__init__" "Row.__init__" iS f fd) (Z:Bl mg) {C:Addr} (T:nF K C)  : bu P w K mg base bQ 1 f fd ["self", "first"] (rC P w C):=by
 refine F.ok (k:=0) rP (fun vs H Q E h=>?_) (fun cdv A outer s H vs Q E hr h=>?_)
 ·obtain⟨r,dx,k,d0,rfl,_⟩:=h
  rfl
 ·obtain⟨r,dx,k,d0,rfl,hr0,hk,rd,nl,q⟩:=h
  refine⟨_,(af (jL (pv 0) (cP (aH (pv 1))) rfl)
   (ai (jL (pv 0) (Co (pZ hr) (BH (pv 1) ah DT) rfl rfl (List.cons_ne_nil _ _) (by show 1<=15;decide)) rfl))),?_⟩
  refine⟨_,rfl,o1,fun m nm=>?_⟩
  have s1:=ae.new (o:=.lst [.ref k]) nm
  have hm1:(upd H m (.lst [.ref k])) m=some (.lst [.ref k]):=aa
  have nrm:r≠m:=aK hr0 nm
  have rd1:=rd.same s1 nl
  generalize (upd H m (.lst [.ref k]))=H1 at s1 hm1 rd1
  have hr1:=s1 _ _ hr0
  refine⟨_,rfl,r,C,dx,_,rfl,hr1,T.cl,T.members,(by show 0<1000;decide),?_⟩
  have kt1:∀p zs,H1 p=some (.tup zs)->∀o,(upd H1 r o) p=some (.tup zs):=fun p zs e o=>by rw [ao (bJ e hr1 (by intro z;cases z))];exact e
  refine fun d nd=>?_
  have ndr:r≠d:=fun z=>by rw [<-z,aa] at nd;cases nd
  have nd1:H1 d=none:=by rw [ao ndr.symm] at nd;exact nd
  have ndm:d≠m:=fun z=>by rw [z,hm1] at nd1;cases nd1
  have kt2:∀p zs,H1 p=some (.tup zs)->∀o o',(upd (upd H1 r o) d o') p=some (.tup zs):=fun p zs e o o'=>by rw [ao (aK e nd1)];exact kt1 p zs e o
  refine⟨_,rfl,aa,k,.int 0,d0,rfl,hk,rd1.av (fun p zs e=>kt2 p zs e _ _) nl,?_⟩
  refine⟨_,rfl,r,C,dx,_,rfl,(by rw [ao ndr,ao ndr,aa]),T.cl,T.places,(by rw [rB];show 1<1000;decide),?_⟩
  refine q m d _ ⟨⟨dx,by rw [aa,rB,AA]⟩,?_,?_,fun p hp=>?_⟩ (fun c o e n=>?_) nm (s1.free nd1)
  ·rw [ao nrm.symm,ao ndm.symm,ao ndm.symm,ao nrm.symm];exact hm1
  ·rw [ao ndr.symm,aa];rfl
  ·rw [Il.mp hp]
   refine⟨hk,rd1.av (fun p zs e=>?_) nl⟩
   have hpr:p≠r:=bJ e hr1 (by intro z;cases z)
   have hpd:p≠d:=aK e nd1
   rw [ao hpr,ao hpd,ao hpd,ao hpr];exact e
  ·rw [ao n,ao (aK (s1 _ _ e) nd1),ao (aK (s1 _ _ e) nd1),ao n];exact s1 _ _ e
theorem rX {f:Addr} {fd:FuncData} (F:bR K "place_of" "Row.place_of" iT f fd) (Z:Bl mg) {C:Addr} (T:nF K C)  : bu P w K mg base bQ 1 f fd ["self", "thing"] (rD P w C):=by
  refine F.ok (k:=0) rQ (fun vs H Q E h=>?_) (fun cdv A outer s H vs Q E hr h=>?_)
  . obtain⟨r,m,d,k,d0,ms,rfl,_⟩:=h
    rfl
  . obtain⟨r,m,d,k,d0,ms,rfl,A,hms,hk,rd,nl,nls,q⟩:=h
    refine⟨_,(af (bo (aM (zc (pZ hr)) (pv 1) (dB (pv 0) rfl) (by with_unfolding_all rfl))
      (af (cD (bf aZ rfl Z.len bZ (aH (dB (pv 0) rfl))) (kX (dB (pv 0) rfl) (pv 1) (Cc (pZ hr))))
      (ai (dZ (ia PySem.F.plainAttrs_list PySem.F.slot_list_append PySem.F.type_list_append fB (dB (pv 0) rfl) (aH (pv 1))))))
      aQ)
      (ai (ay (Ec (pZ hr) (dB (pv 0) rfl) (pv 1) (fun _ _=>rfl))))),?_⟩
    obtain⟨dx,hob⟩:=A.ob
    obtain⟨n1,n2,n3⟩:=A.HV
    have hml:(ms.map fun p=>V.ref p.2).length=ms.length:=Ig ..
    have hv:=mf d0 0 ms
    refine⟨_,rfl,_,rfl,r,C,dx,_,_,rfl,hob,T.cl,T.places,jb,k,d,d0,dI 0 ms,rfl,rfl,⟨A.nJ,A.kW,hk,rd⟩,_,rfl,?_⟩
    by_cases hm:d0∈ms.map (·.1)
    . rw [if_pos hm] at hv
      refine bB (by rw [hv];rfl) ?_
      have e:mh ms d0 k=ms:=by unfold mh;rw [if_pos hm]
      rw [e] at q
      refine⟨_,rfl,r,C,dx,_,_,rfl,hob,T.cl,T.places,jb,_,rfl,k,d,d0,dI 0 ms,_,rfl,rfl,⟨A.nJ,A.kW,hk,rd⟩,hv,?_⟩
      rw [Nat.zero_add]
      exact q H A ma.refl
    . rw [if_neg hm] at hv
      refine cC (by rw [hv];rfl) ?_
      refine⟨_,rfl,r,C,dx,_,_,rfl,hob,T.cl,T.members,ig,m,_,rfl,.inl (aN.of A.mem),_,rfl,r,C,dx,_,_,rfl,hob,T.cl,T.places,jb,_,rfl,k,d,d0,dI 0 ms,rfl,rfl,⟨A.nJ,A.kW,hk,rd⟩,ba (by rw [p7];omega),?_⟩
      have eput:putD (dI 0 ms) d0 k (.int ((ms.map fun p=>V.ref p.2).length:Nat))=dI 0 (ms++[(d0,k)]):=by
        unfold putD
        rw [hv,v7,hml,Nat.zero_add]
        rfl
      rw [eput]
      try change (_:Hp->Prop) (upd H d (fI P w d (dI 0 (ms++[(d0,k)]))))
      have hob1:(upd H d (fI P w d (dI 0 (ms++[(d0,k)])))) r=some (.ins C dx (sJ (.ref m) (.ref d))):=by rw [ao n2];exact hob
      have hm1:(upd H d (fI P w d (dI 0 (ms++[(d0,k)])))) m=some (.lst (ms.map fun p=>V.ref p.2)):=by rw [ao n3.symm];exact A.mem
      refine⟨_,rfl,r,C,dx,_,_,rfl,hob1,T.cl,T.members,ig,.inl ⟨rfl,_,aN.of hm1⟩,_,rfl,m,_,_,rfl,rfl,hm1,ba (by omega),?_⟩
      have e:mh ms d0 k=ms++[(d0,k)]:=by unfold mh;rw [if_neg hm]
      rw [e] at q
      have kt:∀p zs,H p=some (.tup zs)->∀o o',(upd (upd H d o) m o') p=some (.tup zs):=fun p zs h o o'=>by
        rw [ao (bJ h A.mem (by intro z;cases z)),ao (bJ h A.nJ (by intro z;cases z))];exact h
      have keys:∀(H':Hp),(∀p zs,H p=some (.tup zs)->H' p=some (.tup zs))->∀p∈ms++[(d0,k)],jV p.1/\aL H' (.ref p.2) p.1:=fun H' kt' p hp=>by
        rcases IC.mp hp with hp | hp
        . exact⟨(A.keys p hp).1,(A.keys p hp).2.av kt' (nls p hp)⟩
        . rw [Il.mp hp];exact⟨hk,rd.av kt' nl⟩
      have A2:ij P w C (upd (upd H d (fI P w d (dI 0 (ms++[(d0,k)])))) m (.lst ((ms.map fun p=>V.ref p.2)++[.ref k]))) r m d (ms++[(d0,k)]) :=
        ⟨⟨dx,by rw [ao n1];exact hob1⟩,by rw [aa,Iw];rfl,by rw [ao n3,aa],keys _ fun p zs h=>kt p zs h _ _⟩
      have hv2:=mf d0 0 (ms++[(d0,k)])
      rw [if_pos (by rw [Iw];exact IV _ (Il.mpr rfl)),Nat.zero_add] at hv2
      obtain⟨dx2,hob2⟩:=A2.ob
      refine⟨_,rfl,r,C,dx2,_,_,rfl,hob2,T.cl,T.places,jb,_,rfl,k,d,d0,_,_,rfl,rfl,⟨A2.nJ,A2.kW,hk,(A2.keys (d0,k) (IV _ (Il.mpr rfl))).2⟩,hv2,?_⟩
      exact q _ A2 fun c o h c1 c2=>by rw [ao c1,ao c2];exact h
theorem zw {f:Addr} {fd:FuncData} (F:bR K "reached" "reached" nY f fd) (Z:Bl mg) (O_ways_on:Own P w K mg base "ways_on" 3 ["end"] lj):bu P w K mg base bQ 4 f fd ["plan"] uh:=by
  refine bR.HU F (k:=3) iu (fun vs H Q E h=>?_) (fun cdv A outer s H vs Q E hcd hr h=>?_)
  . obtain⟨plv,ps,rfl,_⟩:=h
    rfl
  . obtain⟨plv,ps,rfl,hp,hin,hn0,hn,q⟩:=h
    refine⟨_,(af (aX (i:=1) iu.nd (El hcd ah))
      (af (aX (i:=2) iu.nd (cP (aH ah)))
      (af (vn PassesOwn.never (Bn (pv 2) (fun _=>rfl))
      (af (aX (i:=3) iu.nd (Ff PySem.F.plainAttrs_list PySem.F.slot_list_pop PySem.F.type_list_pop Fg (pv 2)))
      (ai (dA PassesOwn.never rfl (d9 (aJ O_ways_on hr (aH (aF aY (aF aY (pv 0) (pv 3)) ah)))) (aB (i:=4) iu.nd)
      (ai (bo (aM Av (pv 4) (pv 1) (by with_unfolding_all rfl))
      (af (dZ (Aw PySem.F.slot_set_add PySem.F.type_set_add xO (pv 1) (aH (pv 4))))
      (ai (dZ (ia PySem.F.plainAttrs_list PySem.F.slot_list_append PySem.F.type_list_append fB (pv 2) (aH (pv 4))))))
      aQ))))))
      (ai (ay (bg bE rfl Z.tuple cA (aH (bf (mI rfl) rfl Z.sorted hG (aH (pv 1)))))))))),?_⟩
    obtain⟨pp,vs,rfl,e1,r1⟩:=aL.bF hp
    have hvl:=r1.len
    rw [Ig] at hvl
    refine fun fs nfs=>?_
    refine⟨aa,Sum.inl (0:Int),rfl,?_⟩
    try change (_:Hp->Prop) (upd (upd H fs (cT P w fs [])) fs (cT P w fs [Sum.inl (0:Int)]))
    rw [jB]
    have s1:=ae.new (o:=cT P w fs [Sum.inl (0:Int)]) nfs
    have hf1:(upd H fs (cT P w fs [Sum.inl (0:Int)])) fs=some (cT P w fs (kI [0])):=aa
    generalize (upd H fs (cT P w fs [Sum.inl (0:Int)]))=H1 at s1 hf1
    refine⟨o1,fun wl nwl=>?_⟩
    have s2:=ae.new (o:=.lst [.int 0]) nwl
    have hf2:=s2 _ _ hf1
    have hw2:(upd H1 wl (.lst [.int 0])) wl=some (.lst (vN [0])):=aa
    have nfw:fs≠wl:=aK hf1 nwl
    have nwH:H wl=none:=s1.free nwl
    have s12:=s1.trans s2
    generalize (upd H1 wl (.lst [.int 0]))=H2 at s2 hf2 hw2 s12
    refine⟨fun m Ic H'=>∃(ks ws:List Nat) (u1 u2:Option V),Ic=[some (.ref pp),some (.ref fs),some (.ref wl),u1,u2]/\H' fs=some (cT P w fs (kI ks))/\H' wl=some (.lst (vN ws))/\zf ps ks ws/\m=2*(ps.length-ks.length)+ws.length/\ws.length<=ks.length/\ae H H',⟨_,[0],[0],_,_,rfl,hf2,hw2,⟨by simp,fun k hk=>by rw [Il.mp hk];exact hn0,fun k hk=>by rw [Il.mp hk];exact .zero,by simp,fun k hk=>hk,fun k hk=>.inl hk⟩,rfl,Ij _,s12⟩,?_⟩
    rintro m Ic H3 ⟨ks,ws,u1,u2,rfl,hf3,hw3,sk,hm,hwk,s3⟩
    have hkn:=hJ sk.nd sk.lt
    refine⟨_,rfl,!(vN ws).isEmpty,.inl ⟨_,aN.of hw3,rfl⟩,?_⟩
    rcases (show ws=[]\/∃ws' at_,ws=ws' ++ [at_] from (List.eq_nil_or_concat ws).imp id fun ⟨a,b,h⟩=>⟨a,b,by rw [h,List.concat_eq_append]⟩) with rfl | ⟨ws',at_,rfl⟩
    . refine bB rfl ?_
      refine⟨_,rfl,fs,ks.map (fun k:Nat=>(k:Int)),rfl,(by rw [hf3,xZ];rfl),(by rw [Ig];omega),fun l ss hperm _ nl=>?_⟩
      obtain⟨ms,rfl,hms⟩:=nO hperm
      refine⟨l,_,rfl,.inl ⟨aN.of aa,?_⟩⟩
      rw [<-AD]
      intro t nt
      refine q t ms _ aa (fun k=>(hms.mem_iff).trans (sk.all k)) (fun k hk=>sk.lt k (hms.mem_iff.mp hk)) (by rw [hms.length_eq];omega) ((s3.trans (ae.new nl)).trans (ae.new nt))
    . have hwl:(ws' ++ [at_]).length=ws'.length+1:=by rw [Io];rfl
      have hev:vN (ws' ++ [at_])=vN ws' ++ [V.int (at_:Nat)]:=by show (ws' ++ [at_]).map _=_;rw [Iw];rfl
      refine cC (by rw [hev];cases vN ws' <;> rfl) ?_
      have hak:at_∈ks:=sk.sub at_ (IV _ (Il.mpr rfl))
      have hat:=sk.lt at_ hak
      have hps:ps[at_]?=some ps[at_]:=by simp [hat]
      generalize ps[at_]=pce at hps
      obtain⟨ds,e⟩:=pce
      obtain⟨p',xs',pc,da,ea,wsv,ep,e1',el',hx',e2,e3,r3,e4⟩:=iK hp hps
      cases ep
      rw [e1] at e1'
      cases e1'
      refine⟨fun σ' H'=>∃(ks' ws2:List Nat) (u1 u2:Option V),σ' = [some (.ref pp),some (.ref fs),some (.ref wl),u1,u2]/\H' fs=some (cT P w fs (kI ks'))/\H' wl=some (.lst (vN ws2))/\zf ps ks' ws2/\2*(ps.length-ks'.length)+ws2.length<m/\ws2.length<=ks'.length/\ae H H',fun σ' H' ⟨ks',ws2,u1,u2,h1,h2,h3,h4,h5,h6,h7⟩=>⟨_,h5,ks',ws2,u1,u2,h1,h2,h3,h4,rfl,h6,h7⟩,?_⟩
      refine⟨_,rfl,.inl ⟨rfl,_,aN.of hw3⟩,wl,_,.int (at_:Nat),rfl,rfl,hw3,(by rw [hev];simp),?_⟩
      have hdl:(vN (ws' ++ [at_])).dropLast=vN ws':=by rw [hev,List.dropLast_concat]
      rw [hdl]
      have hw4:(upd H3 wl (.lst (vN ws'))) wl=some (.lst (vN ws')):=aa
      have hf4:(upd H3 wl (.lst (vN ws'))) fs=some (cT P w fs (kI ks)):=by rw [ao nfw];exact hf3
      have s4:ae H (upd H3 wl (.lst (vN ws'))):=s3.put nwH
      generalize (upd H3 wl (.lst (vN ws')))=H4 at hw4 hf4 s4
      refine⟨_,rfl,_,rfl,pp,_,_,_,rfl,rfl,ar.of (s4 _ _ e1),bV hx',pc,_,1,_,rfl,rfl,ar.of (s4 _ _ e2),cS,ea,e,rfl,s4 _ _ e4,fun wt H5 hwt s5=>?_⟩
      refine⟨wt,rfl,⟨_,ar.of hwt⟩,fM (K:=K) (a:=wt) (xs:=vN (bH e)) (fun i Ic H'=>∃(ks' add:List Nat) (u2:Option V),Ic=[some (.ref pp),some (.ref fs),some (.ref wl),some (.int (at_:Nat)),u2]/\H' fs=some (cT P w fs (kI ks'))/\H' wl=some (.lst (vN (ws' ++ add)))/\ks' = ks++add/\ks'.Nodup/\(∀k∈ks',k<ps.length)/\(∀k∈add,nK ps k)/\(∀k∈(bH e).take i,k∈ks')/\(∀c o,H5 c=some o->c≠fs->c≠wl->H' c=some o)) ?_ ?_ ?_ ?_⟩
      . exact⟨ks,[],_,rfl,s5 _ _ hf4,by rw [JF];exact s5 _ _ hw4,by rw [JF],sk.nd,sk.lt,(fun _ h=>nomatch h),(fun _ h=>by simp at h),fun c o h _ _=>h⟩
      . rintro i Ic H6 hi ⟨ks',add,u2,rfl,h1,h2,rfl,h4,h5,h6,h7,h8⟩
        exact ar.of (h8 _ _ hwt (bJ hwt (s5 _ _ hf4) (by intro z;cases z)) (bJ hwt (s5 _ _ hw4) (by intro z;cases z)))
      . rintro i y Ic H6 hi ⟨ks',add,u2,rfl,h1,h2,rfl,h4,h5,h6,h7,h8⟩
        obtain⟨k0,hk0,rfl⟩:∃k,(bH e)[i]?=some k/\y=V.int (k:Nat):=by
          rw [Iu] at hi
          cases z:(bH e)[i]? with
          | none=>rw [z] at hi;cases hi
          | some k=>rw [z] at hi;exact⟨k,rfl,(IA.inj hi).symm⟩
        have hk0m:=IB hk0
        have hk0b:=x8 hin hps k0 hk0m
        have htk:(bH e).take (i+1)=(bH e).take i++[k0]:=by rw [IP,hk0];rfl
        refine bx ?_
        refine⟨_,rfl,_,rfl,fs,_,Sum.inl (k0:Int),rfl,h1,rfl,fun b hb=>⟨_,rfl,?_⟩⟩
        rw [wa] at hb
        by_cases hm0:k0∈ks++add
        . refine bB (by rw [hb.mpr hm0];rfl) ?_
          refine⟨ks++add,add,_,rfl,h1,h2,rfl,h4,h5,h6,fun k hk=>?_,h8⟩
          rw [htk] at hk
          rcases IC.mp hk with hk | hk
          . exact h7 k hk
          . rw [Il.mp hk];exact hm0
        . refine cC (by rw [Bool.eq_false_iff.mpr fun z=>hm0 (hb.mp z)];rfl) ?_
          have hfew:=hJ h4 h5
          refine⟨_,rfl,⟨fs,_,rfl,h1⟩,_,rfl,fs,_,Sum.inl (k0:Int),rfl,rfl,h1,(by rw [Ig];exact J4 (show (ks++add).length+1<=1002 by omega) (by decide)),?_⟩
          rw [AN,show LS.putIn (ks++add) k0=ks++(add++[k0]) by unfold LS.putIn;rw [if_neg hm0,Jc]]
          try change (_:Hp->Prop) (upd H6 fs (cT P w fs (kI (ks++(add++[k0])))))
          have h27:(upd H6 fs (cT P w fs (kI (ks++(add++[k0]))))) wl=some (.lst (vN (ws' ++ add))):=by rw [ao nfw.symm];exact h2
          have hal:(ws' ++ add).length<=200:=by
            rw [Io] at hfew ⊢
            omega
          refine⟨_,rfl,.inl ⟨rfl,_,aN.of h27⟩,_,rfl,wl,_,_,rfl,rfl,h27,ba (by rw [Ig];omega),?_⟩
          refine⟨_,add++[k0],_,rfl,by rw [ao nfw,aa],?_,rfl,?_,?_,?_,?_,fun c o h c1 c2=>by rw [ao c2,ao c1];exact h8 c o h c1 c2⟩
          . rw [aa]
            show _=some (HO.lst ((ws' ++ (add++[k0])).map _))
            rw [<-Jc,Iw]
            rfl
          . rw [<-Jc,JL]
            refine⟨h4,by simp,fun x hx y hy z=>?_⟩
            rw [Il.mp hy] at z
            exact hm0 (z ▸ hx)
          . intro k hk
            rw [<-Jc] at hk
            rcases IC.mp hk with hk | hk
            . exact h5 k hk
            . rw [Il.mp hk];exact hk0b
          . intro k hk
            rcases IC.mp hk with hk | hk
            . exact h6 k hk
            . rw [Il.mp hk];exact .step (sk.FL at_ hak) hps hk0m
          . intro k hk
            rw [htk] at hk
            rw [<-Jc]
            rcases IC.mp hk with hk | hk
            . exact Jh _ (h7 k hk)
            . exact IV _ hk
      . rintro Ic H6 ⟨ks',add,u2,rfl,h1,h2,rfl,h4,h5,h6,h7,h8⟩
        rw [show (vN (bH e)).length=(bH e).length from Ig ..,II] at h7
        have hfew:=hJ h4 h5
        refine⟨ks++add,ws' ++ add,_,_,rfl,h1,h2,⟨h4,h5,fun k hk=>?_,Jh _ sk.zero,fun k hk=>?_,fun k hk=>?_⟩,?_,?_,fun c o h=>?_⟩
        . rcases IC.mp hk with hk | hk
          . exact sk.FL k hk
          . exact h6 k hk
        . rcases IC.mp hk with hk | hk
          . exact Jh _ (sk.sub k (Jh _ hk))
          . exact IV _ hk
        . rcases IC.mp hk with hk | hk
          . by_cases hka:k=at_
            . subst hka
              refine .inr fun ds' e' he' j hj=>?_
              rw [hps] at he'
              cases he'
              exact h7 j hj
            . rcases sk.done k hk with hw | hd
              . rcases IC.mp hw with hw | hw
                . exact .inl (Jh _ hw)
                . exact absurd (Il.mp hw) hka
              . exact .inr fun ds' e' he' j hj=>Jh _ (hd ds' e' he' j hj)
          . exact .inl (IV _ hk)
        . rw [Io] at hfew ⊢
          rw [Io] at ⊢
          rw [hwl] at hm
          omega
        . rw [Io,Io]
          omega
        . exact h8 c o (s5 _ _ (s4 _ _ h)) (aK h nfs) (aK h nwH)
theorem CU {f:Addr} {fd:FuncData} (F:bR K "heads" "heads" tj f fd) (Z:Bl mg) (O_reached:Own P w K mg base "reached" 4 ["plan"] uh) (O_ways_on:Own P w K mg base "ways_on" 3 ["end"] lj):bu P w K mg base bQ 5 f fd ["plan"] x9:=by
 refine F.ok (k:=4) mw (fun vs H Q E h=>?_) (fun cdv A outer s H vs Q E hr h=>?_)
 ·obtain⟨plv,ps,rfl,_⟩:=h
  rfl
 ·obtain⟨plv,ps,rfl,hp,hin,hn0,hn,q⟩:=h
  refine⟨_,(af (aX (i:=1) mw.nd (yI As rfl Z.set Ar))
   (af (dA PassesOwn.never rfl (d9 (aJ O_reached hr (aH (pv 0)))) (aB (i:=2) mw.nd)
   (ai (dA PassesOwn.never rfl (d9 (aJ O_ways_on hr (aH (aF aY (aF aY (pv 0) (pv 2)) ah)))) (aB (i:=3) mw.nd)
   (ai (bo (aM oo (pv 3) (pv 2) (aS _))
   (ai (dZ (Aw PySem.F.slot_set_add PySem.F.type_set_add xO (pv 1) (aH (pv 3)))))
   aQ)))))
   (ai (ay (bg bE rfl Z.tuple cA (aH (bf (mI rfl) rfl Z.sorted hG (aH (pv 1))))))))),?_⟩
  obtain⟨pp,vs,rfl,e1,r1⟩:=aL.bF hp
  have hvl:=r1.len
  rw [Ig] at hvl
  refine⟨rfl,fun fs nfs=>?_⟩
  try change (_:Hp->Prop) (upd H fs (cT P w fs []))
  have s1:=ae.new (o:=cT P w fs []) nfs
  have hf1:(upd H fs (cT P w fs [])) fs=some (cT P w fs (kI [])):=aa
  generalize (upd H fs (cT P w fs []))=H1 at s1 hf1
  refine⟨_,rfl,_,ps,rfl,hp.same s1 (aw ps),hin,hn0,hn,fun t ks H2 ht hks hlt hkl s2=>?_⟩
  have hf2:=s2 _ _ hf1
  have s12:=s1.trans s2
  refine⟨t,rfl,⟨_,ar.of ht⟩,fM (K:=K) (a:=t) (xs:=vN ks) (fun i Ic H'=>∃(hs:List Nat) (u1 u2:Option V),Ic=[some (.ref pp),some (.ref fs),u1,u2]/\H' fs=some (cT P w fs (kI hs))/\hs.Nodup/\(∀k∈hs,k<ps.length)/\(∀k,k∈hs↔∃j∈ks.take i,∃ds e,ps[j]?=some (ds,e)/\k∈bH e/\k<=j)/\(∀c o,H2 c=some o->c≠fs->H' c=some o)) ?_ ?_ ?_ ?_⟩
  ·exact⟨[],_,_,rfl,hf2,JS,(fun _ h=>nomatch h),fun k=>⟨fun h=>(nomatch h),fun ⟨j,hj,_⟩=>(by simp at hj)⟩,fun c o h _=>h⟩
  ·rintro i Ic H3 hi ⟨hs,u1,u2,rfl,h1,h2,h3,h4,h5⟩
   exact ar.of (h5 _ _ ht (bJ ht hf2 (by intro z;cases z)))
  ·rintro i y Ic H3 hi ⟨hs,u1,u2,rfl,h1,h2,h3,h4,h5⟩
   obtain⟨at_,hat,rfl⟩:∃k,ks[i]?=some k/\y=V.int (k:Nat):=by
    rw [Iu] at hi
    cases z:ks[i]? with
    | none=>rw [z] at hi;cases hi
    | some k=>rw [z] at hi;exact⟨k,rfl,(IA.inj hi).symm⟩
   have hatl:=hlt at_ (IB hat)
   have hps:ps[at_]?=some ps[at_]:=by simp [hatl]
   generalize ps[at_]=pce at hps
   obtain⟨ds,e⟩:=pce
   obtain⟨p',xs',pc,da,ea,wsv,ep,e1',el',hx',e2,e3,r3,e4⟩:=iK hp hps
   cases ep
   rw [e1] at e1'
   cases e1'
   have k3:∀p zs,H p=some (.tup zs)->H3 p=some (.tup zs):=fun p zs h=>h5 _ _ (s12 _ _ h) (bJ (s12 _ _ h) hf2 (by intro z;cases z))
   refine bx ?_
   refine⟨_,rfl,_,rfl,pp,_,_,_,rfl,rfl,ar.of (k3 _ _ e1),bV hx',pc,_,1,_,rfl,rfl,ar.of (k3 _ _ e2),cS,ea,e,rfl,k3 _ _ e4,fun wt H5 hwt s5=>?_⟩
   refine⟨wt,rfl,⟨_,ar.of hwt⟩,fM (K:=K) (a:=wt) (xs:=vN (bH e)) (fun j Ic H'=>∃(hs':List Nat) (u2:Option V),Ic=[some (.ref pp),some (.ref fs),some (.int (at_:Nat)),u2]/\H' fs=some (cT P w fs (kI hs'))/\hs'.Nodup/\(∀k∈hs',k<ps.length)/\(∀k,k∈hs'↔k∈hs\/(k∈(bH e).take j/\k<=at_))/\(∀c o,H5 c=some o->c≠fs->H' c=some o)) ?_ ?_ ?_ ?_⟩
   ·exact⟨hs,_,rfl,s5 _ _ h1,h2,h3,fun k=>⟨.inl,fun h=>h.elim id fun ⟨z,_⟩=>by simp at z⟩,fun c o h _=>h⟩
   ·rintro j Ic H6 hj ⟨hs',u2,rfl,g1,g2,g3,g4,g5⟩
    exact ar.of (g5 _ _ hwt (bJ hwt (s5 _ _ h1) (by intro z;cases z)))
   ·rintro j y Ic H6 hj ⟨hs',u2,rfl,g1,g2,g3,g4,g5⟩
    obtain⟨k0,hk0,rfl⟩:∃k,(bH e)[j]?=some k/\y=V.int (k:Nat):=by
     rw [Iu] at hj
     cases z:(bH e)[j]? with
     | none=>rw [z] at hj;cases hj
     | some k=>rw [z] at hj;exact⟨k,rfl,(IA.inj hj).symm⟩
    have hk0m:=IB hk0
    have hk0b:=x8 hin hps k0 hk0m
    have htk:(bH e).take (j+1)=(bH e).take j++[k0]:=by rw [IP,hk0];rfl
    refine bx ?_
    refine⟨_,rfl,_,rfl,_,_,rfl,rfl,_,rfl,?_⟩
    refine cU (fun hc=>?_) (fun hc=>?_)
    ·have hle:k0<=at_:=by have:=of_decide_eq_true hc;omega
     have hfew:=hJ g2 g3
     refine⟨_,rfl,⟨fs,_,rfl,g1⟩,_,rfl,fs,_,Sum.inl (k0:Int),rfl,rfl,g1,(by rw [Ig];exact J4 (show hs'.length+1<=1002 by omega) (by decide)),?_⟩
     rw [AN]
     try change (_:Hp->Prop) (upd H6 fs (cT P w fs (kI (LS.putIn hs' k0))))
     refine⟨LS.putIn hs' k0,_,rfl,aa,Cf g2,fun k hk=>?_,fun k=>?_,fun c o h c1=>by rw [ao c1];exact g5 c o h c1⟩
     ·rcases LS.ja.mp hk with hk | hk
      ·exact g3 k hk
      ·rw [hk];exact hk0b
     ·rw [LS.ja,g4,htk]
      constructor
      ·rintro ((h | ⟨h,h'⟩) | rfl)
       ·exact .inl h
       ·exact .inr ⟨Jh _ h,h'⟩
       ·exact .inr ⟨IV _ (Il.mpr rfl),hle⟩
      ·rintro (h | ⟨h,h'⟩)
       ·exact .inl (.inl h)
       ·rcases IC.mp h with h | h
        ·exact .inl (.inr ⟨h,h'⟩)
        ·exact .inr (Il.mp h)
    ·have hle:¬k0<=at_:=fun z=>hc (decide_eq_true (by omega))
     refine⟨hs',_,rfl,g1,g2,g3,fun k=>?_,g5⟩
     rw [g4,htk]
     constructor
     ·rintro (h | ⟨h,h'⟩)
      ·exact .inl h
      ·exact .inr ⟨Jh _ h,h'⟩
     ·rintro (h | ⟨h,h'⟩)
      ·exact .inl h
      ·rcases IC.mp h with h | h
       ·exact .inr ⟨h,h'⟩
       ·rw [Il.mp h] at h';exact absurd h' hle
   ·rintro Ic H6 ⟨hs',u2,rfl,g1,g2,g3,g4,g5⟩
    rw [show (vN (bH e)).length=(bH e).length from Ig ..,II] at g4
    refine⟨hs',_,_,rfl,g1,g2,g3,fun k=>?_,fun c o h c1=>g5 c o (s5 _ _ (h5 c o h c1)) c1⟩
    rw [g4,h4,IP,hat]
    constructor
    ·rintro (⟨j,hj,r⟩ | ⟨h,h'⟩)
     ·exact⟨j,Jh _ hj,r⟩
     ·exact⟨at_,IV _ (Il.mpr rfl),ds,e,hps,h,h'⟩
    ·rintro⟨j,hj,ds',e',hp',h,h'⟩
     rcases IC.mp hj with hj | hj
     ·exact .inl ⟨j,hj,ds',e',hp',h,h'⟩
     ·have hj:j=at_:=Il.mp hj
      subst hj
      rw [hps] at hp'
      cases hp'
      exact .inr ⟨h,h'⟩
  ·rintro Ic H3 ⟨hs,u1,u2,rfl,h1,h2,h3,h4,h5⟩
   rw [show (vN ks).length=ks.length from Ig ..,II] at h4
   have hfew:=hJ h2 h3
   refine⟨_,rfl,fs,hs.map (fun k:Nat=>(k:Int)),rfl,(by rw [h1,xZ];rfl),(by rw [Ig];omega),fun l ss hperm _ nl=>?_⟩
   obtain⟨ms,rfl,hms⟩:=nO hperm
   refine⟨l,_,rfl,.inl ⟨aN.of aa,?_⟩⟩
   rw [<-AD]
   intro t' nt
   have s3:ae H H3:=fun c o h=>h5 c o (s12 c o h) (aK h nfs)
   refine q t' ms _ aa (fun k=>(hms.mem_iff).trans ((h4 k).trans ?_)) (by rw [hms.length_eq];omega) ((s3.trans (ae.new nl)).trans (ae.new nt))
   constructor
   ·rintro⟨j,hj,ds,e,r1,r2,r3⟩
    exact⟨j,ds,e,(hks j).mp hj,r1,r2,r3⟩
   ·rintro⟨j,ds,e,hj,r1,r2,r3⟩
    exact⟨j,(hks j).mpr hj,ds,e,r1,r2,r3⟩
theorem xh {f:Addr} {fd:FuncData} (F:bR K "copy_for" "copy_for" my f fd) (Z:Bl mg)  : bu P w K mg base bQ 1 f fd ["lead", "tops", "places", "most"] (uj P w):=by
  refine F.ok (k:=0) pE (fun vs H Q E h=>?_) (fun cdv A outer s H vs Q E hr h=>?_)
  . obtain⟨la,tp,d,most,k,T,dl,hs,fv,ms,cs,tops,rfl,_⟩:=h
    rfl
  . obtain⟨la,tp,d,most,k,T,dl,hs,fv,ms,cs,tops,rfl,hla,rl,cd,lay,htp,hts,hd,kW,cc,q⟩:=h
    refine⟨_,(af (aX (i:=4) pE.nd (aF aY (pv 0) ah))
      (af (bo (aM m6 (pv 4) (pv 1) (by with_unfolding_all rfl))
      (ai (ay (aV (aI (pv 4) (aV cW)))))
      aQ)
      (af (bo (PW.pt (qw (aM (Eb (pZ hr)) (pv 0) (pv 2) (by with_unfolding_all rfl)) (mU (aM hZ (bf ze rfl Z.len bZ (aH (pv 2))) (pv 3) (aS _)))))
      (ai (ay (pv 0)))
      aQ)
      (ai (ay (aV (aI (pv 4) (aV cW)))))))),?_⟩
    refine⟨_,rfl,la,_,0,_,rfl,rfl,ar.of hla,cg,?_⟩
    have out:bL tops most cs (k,T)=(k,T0)->∀t1 t2,H t1=none->(upd H t1 (.tup [])) t2=none->Q (.ref t2) (upd (upd H t1 (.tup [])) t2 (.tup [.int (k:Nat),.ref t1])):=fun e t1 t2 n1 n2=>by
      rw [e] at q
      have q2:=ae.new (o:=.tup [.int (k:Nat),.ref t1]) n2
      exact q t2 (.tuple [.int (k:Nat),.tuple []]) _ (.tup aa (.cons (.int _) (.cons (.tup (q2 _ _ aa) .nil) .nil))) ⟨_,FD.zero,rfl⟩ ((ae.new n1).trans q2)
    refine⟨_,rfl,_,rfl,tp,_,rfl,.inr (ar.of htp),rfl,xR _,_,rfl,?_⟩
    rw [show (if false=true then !i8 (.int (k:Nat)) (vN hs) else i8 (.int (k:Nat)) (vN hs))=decide (k∈hs) from sL k hs]
    by_cases hk:k∈hs
    . refine cC (decide_eq_true hk) ?_
      exact⟨_,rfl,(by show 0<=sizeLine;decide),fun t1 n1=>⟨ln2,fun t2 n2=>out (by unfold bL;rw [if_pos ((hts k).mp hk)]) t1 t2 n1 n2⟩⟩
    . refine bB (decide_eq_false hk) ?_
      have hnt:¬tops k:=fun z=>hk ((hts k).mpr z)
      obtain⟨hmem,_⟩:=cd.mem cc
      have hcl:(ms.map (·.1)).length=cs.length:=Paired.length cc
      have hml:ms.length=cs.length:=by rw [<-hcl,Ig]
      have hv:=mf dl 0 ms
      refine⟨_,rfl,_,rfl,la,d,dl,dI 0 ms,rfl,rfl,⟨hd,kW,cd.key lay,rl⟩,_,rfl,?_⟩
      by_cases hin:(k,T)∈cs
      . rw [if_pos (hmem.mpr hin)] at hv
        refine cC (by rw [hv];rfl) (bh ?_)
        exact⟨_,rfl,q la dl H rl (by unfold bL;rw [if_neg hnt,if_pos (.inl hin)];exact cd) (ae.refl H)⟩
      . rw [if_neg (fun z=>hin (hmem.mp z))] at hv
        refine bB (by rw [hv];rfl) ?_
        refine⟨_,rfl,d,dI 0 ms,rfl,hd,_,rfl,_,_,rfl,rfl,_,rfl,?_⟩
        rw [p7]
        refine cU (fun hc=>?_) (fun hc=>?_)
        . have hlt:cs.length<most:=by have:=of_decide_eq_true hc;omega
          exact⟨_,rfl,q la dl H rl (by unfold bL;rw [if_neg hnt,if_pos (.inr hlt)];exact cd) (ae.refl H)⟩
        . have hlt:¬cs.length<most:=fun z=>hc (decide_eq_true (by omega))
          exact⟨_,rfl,(by show 0<=sizeLine;decide),fun t1 n1=>⟨ln2,fun t2 n2=>out (by unfold bL;rw [if_neg hnt,if_neg (fun z=>z.elim hin hlt)]) t1 t2 n1 n2⟩⟩
theorem A1 {f:Addr} {fd:FuncData} (F:bR K "end_to" "end_to" qo f fd) (Z:Bl mg) (O_without_ways:Own P w K mg base "without_ways" 4 ["end"] ud):bu P w K mg base bQ 5 f fd ["end", "ways"] sP:=by
 refine F.ok (k:=4) AY (fun vs H Q E h=>?_) (fun cdv A outer s H vs Q E hr h=>?_)
 ·obtain⟨ea,l,e,ns,rfl,_⟩:=h
  rfl
 ·obtain⟨ea,l,e,ns,rfl,he,hl,hns,hn2,q⟩:=h
  refine⟨_,(af (bo (aM bT (bf aZ rfl Z.len bZ (aH (pv 1))) ah (aS _))
   (ai (ay (aV (aI bN (aF cB (pv 1) ah)))))
   aQ)
   (ai (ay (bc fq (aJ O_without_ways hr (aH (pv 0))) (bg bE rfl Z.tuple cA (aH (pv 1))))))),?_⟩
  refine⟨_,rfl,l,_,rfl,.inl (aN.of hl),rfl,_,rfl,?_⟩
  have hlen:(vN ns).length=ns.length:=Ig ..
  by_cases h1:ns.length=1
  ·obtain⟨a,rfl⟩:∃a,ns=[a]:=List.length_eq_one_iff.mp h1
   refine cC (decide_eq_true rfl) ?_
   exact⟨_,rfl,l,_,0,_,rfl,rfl,aN.of hl,cg,ln2,fun t nt=>q t _ aa (ae.new nt)⟩
  ·refine bB (decide_eq_false fun z=>h1 (by have:=V.int.inj z;omega)) ?_
   have hns:=hns.resolve_left h1
   refine⟨_,rfl,ea,e,rfl,he,fun t H1 ht s1=>⟨_,rfl,l,_,rfl,.inl ⟨aN.of (s1 _ _ hl),fun t2 nt2=>?_⟩⟩⟩
   have q2:=ae.new (o:=.tup (vN ns)) nt2
   have hhl:(me e).length<=3:=by cases e <;> simp [me]
   refine⟨t,t2,_,_,rfl,rfl,q2 _ _ ht,aa,IS (ba (by omega)),fun t3 H3 ht3 s3=>?_⟩
   refine q t3 H3 ?_ ((s1.trans q2).trans s3)
   have e1:gG e ns=Cd e ns:=by
    match ns,h1 with
    | [],_=>rfl
    | [a],h=>exact absurd rfl h
    | _::_::_,_=>rfl
   rw [e1,Ce hns]
   exact ht3
theorem xi {f:Addr} {fd:FuncData} (F:bR K "led_past" "led_past" mz f fd) (Z:Bl mg) {tk_MOST_TO_LEAD:Tok} (G_MOST_TO_LEAD:mg "MOST_TO_LEAD" = some (.int 60 tk_MOST_TO_LEAD)) {C:Addr} (T:nF K C) (O_heads:Own P w K mg base "heads" 5 ["plan"] x9) (O_start:Own P w K mg base "start" 4 ["plan"] xX) (O_Row___init__:yS P w K mg base C "Row" 1 ["self", "first"] (rC P w C)) (O_Row_place_of:jT P w K mg base C "place_of" 1 ["self", "thing"] (rD P w C)) (O_behind:Own P w K mg base "behind" 3 ["facts", "deeds"] nQ) (O_leads:Own P w K mg base "leads" 5 ["facts", "end"] (sO aA)) (O_copy_for:Own P w K mg base "copy_for" 1 ["lead", "tops", "places", "most"] (uj P w)) (O_end_to:Own P w K mg base "end_to" 5 ["end", "ways"] sP):bu P w K mg base bQ 7 f fd ["plan", "most"] (ik P w C):=by
  refine F.ok (k:=6) du (fun vs H Q E h=>?_) (fun cdv A outer s H vs Q E hr h=>?_)
  . obtain⟨plv,ps,xs,most,rfl,_⟩:=h
    rfl
  . obtain⟨plv,ps,xs,most,rfl,hp,bY,fA,hx10,hn0,hn,hm1,hm3,q⟩:=h
    refine⟨_,(af (bo (aM lP (bf aZ rfl Z.len bZ (aH (pv 0))) (gm (v:=.int 60) rfl G_MOST_TO_LEAD ⟨_,rfl⟩) (aS _))
      (ai vk)
      aQ)
      (af (aX (i:=2) du.nd (aJ O_heads hr (aH (pv 0))))
      (af (eF (aX (i:=3) du.nd (xJ O_Row___init__ (hr.mono (by decide)) rfl (aH (aV (aI ah (fV (aM m6 ah (pv 2) (by with_unfolding_all rfl)) (aV cW) (aJ O_start hr (aH (pv 0))))))))))
      (af (aX (i:=4) du.nd (cP cW))
      (af (vn PassesOwn.never (aM hZ (bf aZ rfl Z.len bZ (aH (pv 4))) (bf aZ rfl Z.len bZ (aH (dB (pv 3) rfl))) (aS _))
      (af (cD (aF cB (dB (pv 3) rfl) (bf aZ rfl Z.len bZ (aH (pv 4)))) (bU rfl (aG (aB (i:=5) du.nd) (aG (aB (i:=6) du.nd) bM))))
      (af (cD (aF aY (pv 0) (pv 5)) (bU rfl (aG (aB (i:=7) du.nd) (aG (aB (i:=8) du.nd) bM))))
      (af (aX (i:=9) du.nd (aJ O_leads hr (aI (aJ O_behind hr (aI (pv 6) (pv 7))) (pv 8))))
      (af (eZ (i:=10) ["lead"] ["copies", "tops", "most"] [3,2,1] rfl du.nd rfl rfl rfl (d9 (pv 9)) rfl (by decide +kernel) (by decide +kernel) (by decide +kernel) ⟨⟨rfl,.inl rfl,rfl⟩,⟨⟨rfl,.inl rfl,rfl⟩,⟨⟨rfl,.inl rfl,rfl⟩,True.intro⟩⟩⟩ (fun _ _ _ _=>(aB (i:=0) (show ((["lead"]:List Str)++(["copies", "tops", "most"]:List Str)).Nodup by decide +kernel) (hf:=IG rfl))) (fun _ _ _ _=>eB) (fun _ _ _ _=>(sD O_Row_place_of (pv 1) (hr.mono (by decide)) (aH (aJ O_copy_for hr (wo (pv 0) (pv 2) (sQ (K:=K) rfl (pv 1) rfl) (pv 3)))))))
      (ai (dZ (ia PySem.F.plainAttrs_list PySem.F.slot_list_append PySem.F.type_list_append fB (pv 4) (aH (aV (aI (pv 7) (aJ O_end_to hr (aI (pv 8) (pv 10))))))))))))))
      (ai (ay (aV (aI (bg bE rfl Z.tuple cA (aH (pv 4))) (bg bE rfl Z.tuple cA (aH (dB (pv 3) rfl)))))))))))),?_⟩
    obtain⟨pp,vs,rfl,e1,r1⟩:=aL.bF hp
    have hvl:=r1.len
    rw [Ig] at hvl
    have hin:=bY.Fx
    refine⟨_,rfl,pp,_,rfl,.inr (ar.of e1),_,_,rfl,rfl,_,rfl,?_⟩
    refine bB (decide_eq_false (by omega)) ?_
    refine⟨_,rfl,_,ps,rfl,hp,hin,hn0,hn,fun tp hs H1 htp hhs hsl s1=>?_⟩
    have hp1:=hp.same s1 (aw ps)
    have hal:(bA ps).length<=4000:=by
      have h1:=Ej bY
      have h2:ps.length*(2*12+1)<=60*25:=Nat.mul_le_mul hn (Ij 25)
      omega
    refine⟨fun σ' H'=>∃(r m d ka:Addr) (d0:PyData),σ' = [some (.ref pp),some (.int (most:Nat)),some (.ref tp),some (.ref r),none,none,none,none,none,none,none]/\ij P w C H' r m d [(d0,ka)]/\CD (iA ps) d0/\H m=none/\H d=none/\H r=none/\ae H1 H',?_,?_⟩
    . have layc:pX (iA ps).2:=by
        unfold iA
        split
        . exact cM.zero.lay fA
        . exact (p9 bY).lay fA
      refine⟨_,rfl,tp,_,rfl,.inr (ar.of htp),rfl,xR _,_,rfl,?_⟩
      rw [show (if false=true then !i8 (.int 0) (vN hs) else i8 (.int 0) (vN hs))=decide (0∈hs) from sL 0 hs]
      by_cases h0':0∈hs
      . have h0:=(hhs 0).mp h0'
        refine cC (decide_eq_true h0') ?_
        refine⟨(by show 0<=sizeLine;decide),fun t1 n1=>⟨ln2,fun ka nka=>fun r dx nx ndx nex=>?_⟩⟩
        have cd:=(show CD (iA ps) (.tuple [.int ((0:Nat):Int),.tuple []]) from by unfold iA;rw [if_pos h0];exact⟨_,FD.zero,rfl⟩)
        have nl:=cd.kq
        have q2:=ae.new (o:=.tup [.int 0,.ref t1]) nka
        have s3:=(ae.new (o:=.tup []) n1).trans q2
        have rd3:aL (upd (upd H1 t1 (.tup [])) ka (.tup [.int 0,.ref t1])) (.ref ka) (.tuple [.int ((0:Nat):Int),.tuple []]):=.tup aa (.cons (.int _) (.cons (.tup (q2 _ _ aa) .nil) .nil))
        generalize (upd (upd H1 t1 (.tup [])) ka (.tup [.int 0,.ref t1]))=H3 at q2 s3 rd3 nx ndx
        have s0:ae H3 (upd (upd H3 dx (.own r)) r (.ins C dx [])):=fun b o e=>by
          rw [ao (aK e nx),ao (aK e ndx)]
          exact e
        refine⟨r,dx,ka,_,rfl,aa,cd.key layc,rd3.same s0 nl,nl,fun m d H4 A4 k4 nm nd=>⟨rfl,?_⟩⟩
        exact⟨r,m,d,ka,_,rfl,A4,cd,s1.free (s3.free (s0.free nm)),s1.free (s3.free (s0.free nd)),s1.free (s3.free nx),fun c o e=>k4 c o (s0 c o (s3 c o e)) (aK (s3 c o e) nx)⟩
      . have h0:¬df ps 0:=fun z=>h0' ((hhs 0).mpr z)
        refine bB (decide_eq_false h0') ?_
        refine⟨_,rfl,_,ps,xs,12,rfl,hp1,bY,(by omega),hal,fun v ss H2 rv hperm hsort s3'=>⟨ln2,fun ka nka=>fun r dx nx ndx nex=>?_⟩⟩
        have cd:=(show CD (iA ps) (.tuple [.int ((0:Nat):Int),nI ss]) from by unfold iA;rw [if_neg h0];exact⟨_,Cq hperm hsort,rfl⟩)
        have nl:=cd.kq
        have q2:=ae.new (o:=.tup [.int 0,v]) nka
        have s3:=s3'.trans q2
        have rd3:aL (upd H2 ka (.tup [.int 0,v])) (.ref ka) (.tuple [.int ((0:Nat):Int),nI ss]):=.tup aa (.cons (.int _) (.cons (rv.same q2 (hR ss)) .nil))
        generalize (upd H2 ka (.tup [.int 0,v]))=H3 at q2 s3 rd3 nx ndx
        have s0:ae H3 (upd (upd H3 dx (.own r)) r (.ins C dx [])):=fun b o e=>by
          rw [ao (aK e nx),ao (aK e ndx)]
          exact e
        refine⟨r,dx,ka,_,rfl,aa,cd.key layc,rd3.same s0 nl,nl,fun m d H4 A4 k4 nm nd=>⟨rfl,?_⟩⟩
        exact⟨r,m,d,ka,_,rfl,A4,cd,s1.free (s3.free (s0.free nm)),s1.free (s3.free (s0.free nd)),s1.free (s3.free nx),fun c o e=>k4 c o (s0 c o (s3 c o e)) (aK (s3 c o e) nx)⟩
    rintro σ' H2 ⟨r,m,d,ka,d0,rfl,A2,cd0,nm,nd,nr,s2⟩
    have s12:=s1.trans s2
    have htp2:=s2 _ _ htp
    have cc2:o9 [(d0,ka)] [iA ps]:=.cons cd0 .nil
    refine⟨(by show 0<=sizeLine;decide),fun pz npz=>?_⟩
    have npzH:H pz=none:=s12.free npz
    have q3:=ae.new (o:=.lst []) npz
    have s3:=s12.trans q3
    have A3:=A2.mv cc2.kq (fun c o h _=>q3 c o h) (fun p zs h=>q3 _ _ h)
    have htp3:=q3 _ _ htp2
    have hz3:(upd H2 pz (.lst [])) pz=some (.lst []):=aa
    have npm:pz≠m:=(aK A2.mem npz).symm
    have npd:pz≠d:=(aK A2.nJ npz).symm
    have npr:pz≠r:=by obtain⟨dx,h⟩:=A2.ob;exact (aK h npz).symm
    generalize (upd H2 pz (.lst []))=H3 at q3 s3 A3 hz3 htp3
    have c0ok:(iA ps).1<ps.length/\cM xs (iA ps).2:=by
      unfold iA
      split
      . exact⟨hn0,cM.zero⟩
      . exact⟨hn0,p9 bY⟩
    refine⟨fun fu Ic H'=>∃(ms:List (PyData×Addr)) (cs:List Cp) (outs:List Piece) (zs:List V) (u1 u2 u3 u4 u5 u6:Option V),Ic=[some (.ref pp),some (.int (most:Nat)),some (.ref tp),some (.ref r),some (.ref pz),u1,u2,u3,u4,u5,u6]/\ij P w C H' r m d ms/\o9 ms cs/\jY ps.length most cs/\(∀c∈cs,c.1<ps.length/\cM xs c.2)/\H' pz=some (.lst zs)/\aR H' zs (outs.map bO)/\gB (df ps) most ps fu cs outs=dt ps most/\fu+outs.length=most+ps.length/\outs.length<=cs.length/\H' tp=some (.tup (vN hs))/\ae H H',⟨most+ps.length,[(d0,ka)],[iA ps],[],[],_,_,_,_,_,_,rfl,A3,cc2,⟨by simp,Ir (Jr _ _) hm1⟩,(fun c hc=>by rw [Il.mp hc];exact c0ok),hz3,.nil,rfl,rfl,IF _,htp3,s3⟩,?_⟩
    clear A2 A3 hz3 s3 q3 htp3 cc2 cd0 npz htp2 s2
    rintro fu Ic H4 ⟨ms,cs,outs,zs,u1,u2,u3,u4,u5,u6,rfl,A4,cc4,pA,hcs,hz4,rz4,hloop,hfu,hoc,htp4,s4⟩
    obtain⟨dx4,hob4⟩:=A4.ob
    have hzl:zs.length=outs.length:=by have:=rz4.len;rw [Ig] at this;exact this
    have hml:ms.length=cs.length:=by have:=Paired.length cc4;rw [Ig] at this;exact this
    have hml':(ms.map fun p=>V.ref p.2).length=ms.length:=Ig ..
    have hcn:=pA.len fun c hc=>(hcs c hc).1
    refine⟨_,rfl,pz,_,rfl,.inl (aN.of hz4),_,rfl,r,C,dx4,_,_,rfl,hob4,T.cl,T.members,ig,m,_,rfl,.inl (aN.of A4.mem),_,_,rfl,rfl,_,rfl,?_⟩
    refine cU (fun hc=>?_) (fun hc=>?_)
    . have hlt:outs.length<ms.length:=by have:=of_decide_eq_true hc;omega
      obtain⟨fu,rfl⟩:∃f',fu=f' + 1:=⟨fu-1,by omega⟩
      have hmsi:ms[outs.length]?=some ms[outs.length]:=by simp [hlt]
      generalize ms[outs.length]=pm at hmsi
      obtain⟨c,hci,cd⟩:=fC cc4 (i:=outs.length) (x:=pm.1) (by rw [Iu,hmsi];rfl)
      have hcm:=IB hci
      obtain⟨hcl,hct⟩:=hcs c hcm
      have hps:ps[c.1]?=some ps[c.1]:=by simp [hcl]
      generalize ps[c.1]=pce at hps
      rw [rF hci hps] at hloop
      obtain⟨ds,e⟩:=pce
      obtain⟨p',xs',pc,da,ea,ws,ep,e1',el',hx',e2,e3,r3,e4⟩:=iK hp hps
      cases ep
      rw [e1] at e1'
      cases e1'
      have dok:=bY.fe _ (IB hps)
      have eok:=bY.ends _ (IB hps)
      obtain⟨fd,hfd,epm⟩:=id cd
      have rdm:=(A4.keys pm (IB hmsi)).2
      rw [epm] at rdm
      obtain⟨pa,pvs,ere,hpm,rpv⟩:=aL.bF rdm
      cases ere
      obtain⟨y1,t1,rfl,q1,rpv⟩:=rpv.cons_inv
      obtain⟨y2,t2,rfl,q2,rpv⟩:=rpv.cons_inv
      have z:=rpv.nil_inv
      subst z
      rw [q1.int_inv] at hpm
      have fv2:FV H4 y2 c.2:=hfd.fv q2
      refine⟨_,fun σ' H' h=>⟨fu,Jk fu,h⟩,?_⟩
      refine⟨_,rfl,r,C,dx4,_,_,rfl,hob4,T.cl,T.members,ig,_,rfl,pz,_,rfl,.inl (aN.of hz4),m,_,_,_,rfl,rfl,aN.of A4.mem,bV (j:=zs.length) (by rw [hzl,Iu,hmsi];rfl),pm.2,_,rfl,ar.of hpm,rfl,_,_,rfl,_,_,rfl,rfl,?_⟩
      refine⟨_,rfl,_,rfl,pp,_,_,_,rfl,rfl,ar.of (s4 _ _ e1),bV hx',pc,_,rfl,ar.of (s4 _ _ e2),rfl,_,_,rfl,_,_,rfl,rfl,?_⟩
      have bok:=hct.p8 dok.2
      refine⟨_,rfl,_,rfl,y2,da,ws,ds,c.2,xs,rfl,fv2,s4 _ _ e3,r3.same s4 (aP ds),hct,dok.2,(by omega),fun gv H5 g5 s5=>⟨_,rfl,gv,ea,bp c.2 ds,e,rfl,g5,s5 _ _ (s4 _ _ e4),(fun ss hs nd=>Ir (bok.bS ss hs nd) (by omega)),fun at_ vs2 H6 hat pv s6=>?_⟩⟩
      have lok:=yb bok eok
      obtain⟨hll,hl2⟩:=iO (e:=e) bok
      have s46:=s5.trans s6
      have A6:=A4.mv cc4.kq (fun c o h _=>s46 c o h) (fun p zs h=>s46 _ _ h)
      have hz6:=s46 _ _ hz4
      have htp6:=s46 _ _ htp4
      have hvl:vs2.length=(cx (bp c.2 ds) e).length:=Paired.length pv
      generalize hls:cx (bp c.2 ds) e=ls at hloop lok hll hl2 pv hvl
      refine⟨_,rfl,at_,rfl,⟨_,ar.of hat⟩,fun acc na=>?_⟩
      have nam:acc≠m:=(aK A6.mem na).symm
      have nad:acc≠d:=(aK A6.nJ na).symm
      have nar:acc≠r:=by obtain⟨dx,h⟩:=A6.ob;exact (aK h na).symm
      have kb:∀{H':Hp},ma m d H6 H'->∀p zs,H6 p=some (.tup zs)->H' p=some (.tup zs):=fun b p zs h=>b p _ h (bJ h A6.mem (by intro z;cases z)) (bJ h A6.nJ (by intro z;cases z))
      refine lh (K:=K) (a:=at_) (xs:=vs2) (fun i ys Ie H'=>∃(cv:Option V) (ms':List (PyData×Addr)),Ie=[cv,some (.ref r),some (.ref tp),some (.int (most:Nat))]/\ij P w C H' r m d ms'/\o9 ms' (cE (df ps) most cs (ls.take i)).1/\ys=vN (cE (df ps) most cs (ls.take i)).2/\H' acc=some (.lst ys)/\ma m d H6 H') ?_ ?_ ?_ ?_
      . have qn:=ae.new (o:=.lst []) na
        exact⟨none,ms,rfl,A6.mv cc4.kq (fun c o h _=>qn c o h) (fun p zs h=>qn _ _ h),cc4,rfl,aa,ma.of_same qn⟩
      . rintro i ys Ie H7 hi ⟨cv,ms',rfl,A7,cc7,rfl,ha,b7⟩
        refine⟨ar.of (kb b7 _ _ hat),ha,ba ?_⟩
        obtain⟨_,_,hlen,_⟩:=jc (tops:=df ps) (ls:=ls.take i) (ns:=[]) pA hcs fun c hc=>lok c (JW hc)
        rw [Ig]
        unfold cE
        rw [hlen,IH]
        show 0+_<=_
        omega
      . rintro i y ys Ie H7 hi ⟨cv,ms',rfl,A7,cc7,rfl,ha,b7⟩
        obtain⟨pr,hpr,qa,u,rfl,hq,fvu⟩:=fC pv hi
        obtain⟨k,U⟩:=pr
        obtain⟨hkl,hUok⟩:=lok _ (IB hpr)
        obtain⟨cok7,hcs7,_,_⟩:=jc (tops:=df ps) (ls:=ls.take i) (ns:=[]) pA hcs fun c hc=>lok c (JW hc)
        have hcn7:=jY.len cok7 fun c hc=>(hcs7 c hc).1
        have hml7:ms'.length=(cE (df ps) most cs (ls.take i)).1.length:=by have:=Paired.length cc7;rw [Ig] at this;exact this
        have hnx:=xb (df ps) most (cs:=cs) hpr
        have fvu7:=fvu.av (kb b7)
        obtain⟨fdu,hfdu,ru⟩:=fvu7.fd
        have hq7:=kb b7 _ _ hq
        have cdl:CD (k,U) (.tuple [.int (k:Nat),fdu]):=⟨fdu,hfdu,rfl⟩
        obtain⟨dx7,hob7⟩:=A7.ob
        have htp7:=kb b7 _ _ htp6
        refine bx ?_
        refine iI ?_
        refine bh ?_
        refine⟨_,rfl,r,dx7,_,rfl,hob7,vZ,_,rfl,_,rfl,_,rfl,r,C,dx7,_,_,rfl,hob7,T.cl,T.places,jb,_,rfl,qa,tp,d,most,k,U,_,hs,u,ms',_,df ps,rfl,hq7,.tup hq7 (.cons (.int _) (.cons ru .nil)),cdl,hUok.lay fA,htp7,hhs,A7.nJ,A7.kW,cc7,fun a d' H8 rd' cd' s8=>?_⟩
        have A8:=A7.mv cc7.kq (fun c o h _=>s8 c o h) (fun p zs h=>s8 _ _ h)
        have hcpok:cM xs (bL (df ps) most (cE (df ps) most cs (ls.take i)).1 (k,U)).2:=by
          unfold bL
          split
          . exact cM.zero
          . split
            . exact hUok
            . exact cM.zero
        refine⟨r,m,d,a,d',ms',rfl,A8,(by rw [hml7];unfold cE;omega),cd'.key (hcpok.lay fA),rd',cd'.kq,cc7.kq,fun H9 A9 b9=>?_⟩
        have ha9:=b9 _ _ (s8 _ _ ha) nam nad
        have cc9:=o9.put (a:=a) cc7 cd'
        have eix:=(cd'.mem cc9).2
        rw [eix]
        refine⟨ha9,_,mh ms' d' a,rfl,?_,?_,?_,aa,fun c' o h c1 c2=>?_⟩
        . refine A9.mv cc9.kq (fun x o h z=>?_) (fun p zs h=>by rw [ao (bJ h ha9 (by intro z;cases z))];exact h)
          rw [ao ?_]
          . exact h
          . rcases z with rfl | rfl | rfl
            . exact nar.symm
            . exact nam.symm
            . exact nad.symm
        . rw [hnx];exact cc9
        . rw [hnx]
          show _=((cE (df ps) most cs (ls.take i)).2++[_]).map _
          rw [Iw]
          rfl
        . rw [ao (aK h na)]
          exact b9 c' o (s8 _ _ (b7 c' o h c1 c2)) c1 c2
      rintro ys Ie H7 ⟨cv,ms',rfl,A7,cc7,rfl,ha,b7⟩
      rw [hvl,II] at cc7 ha
      obtain⟨cok7,hcs7,hlen7,more,emore⟩:=jc (tops:=df ps) (ls:=ls) (ns:=[]) pA hcs lok
      have hcn7:=jY.len cok7 fun c hc=>(hcs7 c hc).1
      have s7:ae H H7:=fun c o h=>b7 c o (s46 c o (s4 c o h)) (aK h nm) (aK h nd)
      have hz7:H7 pz=some (.lst zs):=b7 _ _ hz6 npm npd
      have hlen7':(cE (df ps) most cs ls).2.length=ls.length:=by unfold cE;rw [hlen7];show 0+_=_;omega
      refine⟨_,rfl,.inl ⟨rfl,_,aN.of hz7⟩,_,rfl,_,rfl,_,rfl,ea,acc,e,(cE (df ps) most cs ls).2,rfl,s7 _ _ e4,ha,(by rw [hlen7'];exact hll),(by rw [hlen7'];exact hl2),fun t3 H8 ht3 s8=>⟨ln2,fun t4 nt4=>?_⟩⟩
      have q4:=ae.new (o:=.tup [.ref da,.ref t3]) nt4
      have s79:=s8.trans q4
      have ht9:=q4 _ _ ht3
      have h49:(upd H8 t4 (.tup [.ref da,.ref t3])) t4=some (.tup [.ref da,.ref t3]):=aa
      generalize (upd H8 t4 (.tup [.ref da,.ref t3]))=H9 at q4 s79 ht9 h49
      have hz9:=s79 _ _ hz7
      refine⟨pz,_,_,rfl,rfl,hz9,ba (by omega),?_⟩
      have kt:∀p xs,H9 p=some (.tup xs)->(upd H9 pz (.lst (zs++[.ref t4]))) p=some (.tup xs):=fun p xs h=>by rw [ao (bJ h hz9 (by intro z;cases z))];exact h
      have s9:=s7.trans s79
      have kt49:∀p xs,H4 p=some (.tup xs)->(upd H9 pz (.lst (zs++[.ref t4]))) p=some (.tup xs):=fun p xs h=>kt _ _ (s79 _ _ (kb b7 _ _ (s46 _ _ h)))
      refine⟨ms',(cE (df ps) most cs ls).1,outs++[(ds,gG e (cE (df ps) most cs ls).2)],_,_,_,_,_,_,_,rfl,A7.mv cc7.kq (fun x o h z=>?_) (fun p zs h=>kt _ _ (s79 _ _ h)),cc7,cok7,hcs7,aa,?_,hloop,(by rw [Io];show fu+(_+1)=_;omega),?_,kt49 _ _ htp4,s9.put npzH⟩
      . rw [ao ?_]
        . exact s79 _ _ h
        . rcases z with rfl | rfl | rfl
          . exact npr.symm
          . exact npm.symm
          . exact npd.symm
      . rw [Iw]
        have rd4:aL H9 (.ref t4) (bO (ds,gG e (cE (df ps) most cs ls).2)):=.tup h49 (.cons (.tup (s9 _ _ e3) (r3.same s9 (aP ds))) (.cons (lC ht9) .nil))
        exact aR.app (rz4.av kt49 (bG outs)) (rd4.av kt (cw _))
      . have:(cE (df ps) most cs ls).1.length=cs.length+more.length:=by unfold cE;rw [emore,Io]
        rw [this,Io]
        show _+1<=_
        omega
    . have hnl:¬outs.length<ms.length:=fun z=>hc (decide_eq_true (by omega))
      rw [um (JT (by omega))] at hloop
      rw [<-hloop] at q
      refine⟨_,rfl,pz,_,rfl,.inl ⟨aN.of hz4,fun t1 n1=>?_⟩⟩
      have q1:=ae.new (o:=.tup zs) n1
      refine⟨_,rfl,r,C,dx4,_,_,rfl,q1 _ _ hob4,T.cl,T.members,ig,m,_,rfl,.inl ⟨aN.of (q1 _ _ A4.mem),fun t2 n2=>⟨ln2,fun t3 n3=>?_⟩⟩⟩
      have q2:=ae.new (o:=.tup (ms.map fun p=>V.ref p.2)) n2
      have q3:=ae.new (o:=.tup [.ref t1,.ref t2]) n3
      have q13:=(q1.trans q2).trans q3
      refine q (.ref t3) (ms.map (·.1)) _ cc4 (.tup aa (.cons (.tup (q3 _ _ (q2 _ _ aa)) (rz4.same q13 (bG outs))) (.cons (.tup (q3 _ _ aa) (yc fun p hp=>(A4.keys p hp).2.same q13 (cc4.kq p hp))) .nil))) (s4.trans q13)
theorem CV {f:Addr} {fd:FuncData} (F:bR K "meets" "meets" tm f fd) (Z:Bl mg) (O_covers:Own P w K mg base "covers" 2 ["facts", "others"] v3):bu P w K mg base bQ 3 f fd ["one", "lead"] yh:=by
 refine F.ok (k:=2) CO (fun vs H Q E h=>?_) (fun cdv A outer s H vs Q E hr h=>?_)
 ·obtain⟨ov,lv,c,k,U,rfl,_⟩:=h
  rfl
 ·obtain⟨ov,lv,c,k,U,rfl,hov,hlv,bS,q⟩:=h
  refine⟨_,(ai (ay (mV (fi bT (aF aY (pv 0) ah) (aF aY (pv 1) ah) (aS _)) (fU (aJ O_covers hr (aI (aF aY (pv 0) ah) (aF aY (pv 1) ah))))))),?_⟩
  obtain⟨oq,ou,rfl,hoq,hou⟩:=hov
  obtain⟨lq,lu,rfl,hlq,hlu⟩:=hlv
  have hlq:H lq=some (.tup [.int (k:Nat),lu]):=hlq
  have hlu:FV H lu U:=hlu
  refine⟨_,rfl,oq,_,0,_,rfl,rfl,ar.of hoq,cg,_,rfl,lq,_,0,_,rfl,rfl,ar.of hlq,cg,rfl,_,rfl,?_⟩
  by_cases hc:c.1=(k:Int)
  ·refine cC (decide_eq_true (by rw [hc])) ?_
   refine⟨_,rfl,oq,_,1,_,rfl,rfl,ar.of hoq,cS,_,rfl,lq,_,1,_,rfl,rfl,ar.of hlq,cS,ou,lu,c.2,U,rfl,hou,hlu,bS,fun b H1 hb s1=>?_⟩
   exact q b H1 (hb.trans ⟨fun h=>⟨hc,h⟩,fun h=>h.2⟩) s1
  ·refine bB (decide_eq_false fun z=>hc (by injection z)) ?_
   exact q false H ⟨(fun h=>nomatch h),fun h=>absurd h.1 hc⟩ (ae.refl H)
theorem uT {f:Addr} {fd:FuncData} (F:bR K "with_piece" "with_piece" j5 f fd) (Z:Bl mg)  : bu P w K mg base bQ 1 f fd ["plan", "place", "piece"] pC:=by
 refine F.ok (k:=0) uP (fun vs H Q E h=>?_) (fun cdv A outer s H vs Q E hr h=>?_)
 ·obtain⟨plv,qv,ps,p,k,rfl,_⟩:=h
  rfl
 ·obtain⟨plv,qv,ps,p,k,rfl,hp,hv,hk,hn,q⟩:=h
  refine⟨_,(ai (ay (bc fq (bc fq (eE gZ (pv 0) fj (fk (pv 1))) (aV (aH (pv 2)))) (eE gZ (pv 0) (fk (bc cY (pv 1) ah)) fj)))),?_⟩
  obtain⟨pp,vs,rfl,e1,rvs⟩:=aL.bF hp
  have hvl:vs.length=ps.length:=by have:=rvs.len;rw [Ig] at this;exact this
  refine⟨_,rfl,_,rfl,(k:Int),rfl,pp,_,rfl,ar.of e1,fun hw'=>absurd hw'.2 (by rw [HT.iD];omega),fun _ p1 np1=>?_⟩
  rw [rL (by omega)]
  have s1:=ae.new (o:=.tup (vs.take k)) np1
  refine⟨_,rfl,o1,fun t1 n1=>?_⟩
  have s2:=ae.new (o:=.tup [qv]) n1
  refine⟨p1,t1,_,_,rfl,rfl,s2 _ _ aa,aa,(by rw [IH];show _+1<=sizeLine;exact IS (ba (by omega))),fun t2 H3 ht2 s3=>?_⟩
  have s03:=(s1.trans s2).trans s3
  refine⟨_,rfl,_,rfl,_,_,rfl,rfl,((k+1:Nat):Int),rfl,pp,_,rfl,ar.of (s03 _ _ e1),fun hw'=>absurd hw'.1 (by rw [HT.iD];omega),fun _ p3 np3=>?_⟩
  rw [lG (by omega)]
  have s4:=ae.new (o:=.tup (vs.drop (k+1))) np3
  refine⟨t2,p3,_,_,rfl,rfl,s4 _ _ ht2,aa,(by rw [Io,IH,JI];show _+1+_<=sizeLine;exact IS (ba (by omega))),fun t H5 ht s5=>?_⟩
  have s05:=s03.trans (s4.trans s5)
  refine q (.ref t) H5 ?_ s05
  rw [yl (by omega)] at ht
  have hpc:aL H5 qv (bO p):=hv.same s05 (cw p)
  refine .tup ht ?_
  rw [JX]
  exact aR.setAt hpc k (rvs.same s05 (bG ps))
theorem wL {f:Addr} {fd:FuncData} (F:bR K "first_met" "first_met" kL f fd) (Z:Bl mg) (O_meets:Own P w K mg base "meets" 3 ["one", "lead"] yh):bu P w K mg base bQ 4 f fd ["lead", "copies"] rJ:=by
 refine F.ok (k:=3) j6 (fun vs H Q E h=>?_) (fun cdv A outer s H vs Q E hr h=>?_)
 ·obtain⟨lv,pa,us,paper,ld,rfl,_⟩:=h
  rfl
 ·obtain⟨lv,pa,us,paper,ld,rfl,hl,hpa,hpp,bS,q⟩:=h
  refine⟨_,(af (dA PassesOwn.never rfl (yg rfl Z.enumerate (aH (pv 1))) (bU rfl (aG (aB (i:=2) j6.nd) (aG (aB (i:=3) j6.nd) bM)))
   (ai (bo (i6 (aJ O_meets hr (aI (pv 3) (pv 0))))
   (ai (ay (pv 2)))
   aQ)))
   (ai (ay bW))),?_⟩
  refine⟨_,rfl,pa,rfl,.inl ⟨⟨_,ar.of hpa⟩,?_⟩⟩
  refine Cw (Sq:=ar K) (a:=pa) (xs:=us) (fun i Ic H'=>∃(u1 u2:Option V),Ic=[some lv,some (.ref pa),u1,u2]/\(∀(j:Nat) (c:Pp),j<i->paper[j]?=some c->¬wx c ld.1 ld.2)/\ae H H') ?_ ?_ ?_ ?_
  ·exact⟨_,_,rfl,(fun j c h=>absurd h (Nat.not_lt_zero _)),ae.refl _⟩
  ·rintro i Ic H1 hi ⟨u1,u2,rfl,hm,s1⟩
   exact ar.of (s1 _ _ hpa)
  ·rintro i x Ic H1 t hx ht ⟨u1,u2,rfl,hm,s1⟩
   obtain⟨c,hc,hpv⟩:=L2.fC hpp hx
   have s2:=s1.trans (ae.new (o:=.tup [.int (i:Nat),x]) ht)
   refine⟨t,_,rfl,ar.of aa,rfl,_,_,rfl,_,_,rfl,rfl,?_⟩
   generalize (upd H1 t (.tup [.int (i:Nat),x]))=H2 at s2 ⊢
   refine⟨_,rfl,_,rfl,x,lv,c,ld.1,ld.2,rfl,hpv.av (fun p zs e=>s2 _ _ e),PV.av hl (fun p zs e=>s2 _ _ e),bS c (IB hc),fun b H3 hb s3=>⟨_,rfl,?_⟩⟩
   cases b with
   | true =>
    refine bh ?_
    exact⟨_,rfl,q (some i) H3 ⟨⟨c,hc,hb.mp rfl⟩,hm⟩ (s2.trans s3)⟩
   | false =>
    refine bw ?_
    refine⟨_,_,rfl,fun j c' hj hc'=>?_,s2.trans s3⟩
    by_cases hji:j=i
    ·subst hji
     rw [hc] at hc'
     cases hc'
     exact fun z=>absurd (hb.mpr z) (by decide)
    ·exact hm j c' (by omega) hc'
  ·rintro Ic H1 ⟨u1,u2,rfl,hm,s1⟩
   refine q none H1 (fun c hc=>?_) s1
   obtain⟨j,hj⟩:=Kc hc
   exact hm j c (by rw [cG hpp];exact (IE.mp hj).1) hj
theorem wM {f:Addr} {fd:FuncData} (F:bR K "piece_for" "piece_for" kM f fd) (Z:Bl mg) (O_leads:Own P w K mg base "leads" 5 ["facts", "end"] (sO aA)) (O_behind:Own P w K mg base "behind" 3 ["facts", "deeds"] nQ) (O_first_met:Own P w K mg base "first_met" 4 ["lead", "copies"] rJ) (O_end_to:Own P w K mg base "end_to" 5 ["end", "ways"] sP):bu P w K mg base bQ 7 f fd ["facts", "piece", "copies"] rK:=by
  refine F.ok (k:=6) iw (fun vs H Q E h=>?_) (fun cdv A outer s H vs Q E hr h=>?_)
  . obtain⟨fv,pc,da,ea,pa,wd,us,ds,e,paper,T,xs,rfl,_⟩:=h
    rfl
  . obtain⟨fv,pc,da,ea,pa,wd,us,ds,e,paper,T,xs,rfl,hf,hpc,hda,rds,hea,hpa,hpp,tok,dok,hd12,hx,bS,q⟩:=h
    refine⟨_,(af (cD (pv 1) (bU rfl (aG (aB (i:=3) iw.nd) (aG (aB (i:=4) iw.nd) bM))))
      (af (eZ (i:=5) ["lead"] ["copies"] [2] rfl iw.nd rfl rfl rfl (d9 (aJ O_leads hr (aI (aJ O_behind hr (aI (pv 0) (pv 3))) (pv 4)))) rfl (by decide +kernel) (by decide +kernel) (by decide +kernel) ⟨⟨rfl,.inl rfl,rfl⟩,True.intro⟩ (fun _ _ _ _=>(aB (i:=0) (show ((["lead"]:List Str)++(["copies"]:List Str)).Nodup by decide +kernel) (hf:=IG rfl))) (fun _ _ _ _=>eB) (fun _ _ _ _=>(aJ O_first_met hr (aI (pv 0) (pv 1)))))
      (af (bo (aM m6 bW (pv 5) (by with_unfolding_all rfl))
      (ai (ay bW))
      aQ)
      (ai (ay (aV (aI (pv 3) (aJ O_end_to hr (aI (pv 4) (pv 5)))))))))),?_⟩
    refine⟨_,rfl,pc,_,rfl,ar.of hpc,rfl,_,_,rfl,_,_,rfl,rfl,?_⟩
    refine⟨_,rfl,_,rfl,fv,da,wd,ds,T,xs,rfl,hf,hda,rds,tok,dok,(by omega),fun v H1 f1 s1=>?_⟩
    have tokb:=tok.p8 dok
    refine⟨_,rfl,v,ea,bp T ds,e,rfl,f1,s1 _ _ hea,(fun ss a b=>Ir (tokb.bS ss a b) (by omega)),fun t1 lvs H2 ht1 hlv s2=>?_⟩
    have s02:=s1.trans s2
    have hll:=cG hlv
    have hl2:=(iO (e:=e) tokb).2
    refine⟨t1,rfl,⟨_,ar.of ht1⟩,fun acc na=>?_⟩
    refine lh (K:=K) (a:=t1) (xs:=lvs) (fun i ys Ie H'=>∃(c1:Option V) (os:List (Option Nat)),Ie=[c1,some (.ref pa)]/\ys=os.map lF/\Paired (FM paper) ((cx (bp T ds) e).take i) os/\H' acc=some (.lst ys)/\ae H2 H') ?_ ?_ ?_ ?_
    . exact⟨none,[],rfl,rfl,.nil,aa,ae.new na⟩
    . rintro i ys Ie H3 hi ⟨c1,os,rfl,rfl,g1,ha,s3⟩
      refine⟨ar.of (s3 _ _ ht1),ha,ba ?_⟩
      have:=cG g1
      rw [IH] at this
      rw [Ig]
      omega
    . rintro i x ys Ie H3 hx' ⟨c1,os,rfl,rfl,g1,ha,s3⟩
      obtain⟨ld,hld,hpv⟩:=L2.fC hlv hx'
      refine bx ?_
      refine iI ?_
      refine bh ?_
      have s03:=s02.trans s3
      refine⟨_,rfl,_,rfl,x,pa,us,paper,ld,rfl,PV.av hpv (fun p zs e=>s3 _ _ e),s03 _ _ hpa,hpp.same s03,bS,fun o H4 ho s4=>?_⟩
      refine⟨s4 _ _ ha,_,os++[o],rfl,(by rw [Iw];rfl),?_,aa,(s3.trans s4).put na⟩
      rw [take1 hld]
      exact L2.dE g1 (.cons ho .nil)
    rintro ys Ie H3 ⟨c1,os,rfl,rfl,g1,ha,s3⟩
    rw [hll,II] at g1
    have hol:=cG g1
    have s03:=s02.trans s3
    refine bx ?_
    refine⟨_,rfl,acc,_,rfl,.inl (aN.of ha),rfl,sV os,_,rfl,?_⟩
    by_cases hn:none∈os
    . refine cC (by rw [show (if false=true then !i8 V.aT (os.map lF) else i8 V.aT (os.map lF))=decide (none∈os) from Dm os];exact decide_eq_true hn) ?_
      exact q .aT none H3 ⟨os,g1,.inl ⟨hn,rfl⟩⟩ (fun _=>rfl) (fun e' z=>nomatch z) s03
    . refine bB (by rw [show (if false=true then !i8 V.aT (os.map lF) else i8 V.aT (os.map lF))=decide (none∈os) from Dm os];exact decide_eq_false hn) ?_
      obtain⟨ns,rfl,hfm⟩:=all_some hn
      have hvn:(ns.map some).map lF=vN ns:=by rw [Js];rfl
      rw [hvn] at ha
      rw [Ig] at hol
      have hlen:=iO (e:=e) tokb
      refine⟨_,rfl,_,rfl,_,rfl,ea,acc,e,ns,rfl,s03 _ _ hea,ha,(by rw [<-hol];exact hlen.1),(by omega),fun t H4 ht s4=>⟨ln2,fun t5 n5=>?_⟩⟩
      have s5:=ae.new (o:=.tup [.ref da,.ref t]) n5
      exact q (.ref t5) (some (gG e ns)) _ ⟨ns.map some,g1,.inr ⟨hn,by rw [hfm]⟩⟩ (fun z=>nomatch z) (fun e' z=>by cases z;exact⟨t5,t,rfl,aa,s5 _ _ ht⟩) (s03.trans (s4.trans s5))
theorem og {f:Addr} {fd:FuncData} (F:bR K "__init__" "Keeper.__init__" gH f fd) (Z:Bl mg) {C:Addr} (T:nF K C) {D:Addr} (TK:iZ K D) (O_led_past:Own P w K mg base "led_past" 7 ["plan", "most"] (ik P w C)):bu P w K mg base bQ 12 f fd ["self", "plan", "most"] (yn D):=by
 refine F.ok (k:=11) nZ (fun vs H Q E h=>?_) (fun cdv A outer s H vs Q E hr h=>?_)
 ·obtain⟨kp,dx,plv,ps,xs,most,rfl,_⟩:=h
  rfl
 ·obtain⟨kp,dx,plv,ps,xs,most,rfl,hk,hp,ok,q⟩:=h
  refine⟨_,(af (jL (pv 0) (pv 1) rfl)
   (af (jL (pv 0) (pv 2) rfl)
   (af (cD (aJ O_led_past hr (aI (pv 1) (pv 2))) (bU rfl (aG (rM (pv 0)) (aG (rM (pv 0)) bM))))
   (ai (jL (pv 0) ah rfl))))),?_⟩
  refine⟨_,rfl,_,rfl,kp,D,dx,_,rfl,hk,TK.cl,TK.kept,(by show 0<1000;decide),?_⟩
  rw [GJ]
  refine⟨_,rfl,_,rfl,kp,D,dx,_,rfl,aa,TK.cl,TK.bound,(by show 1<1000;decide),?_⟩
  rw [GK,jB]
  have b1:cV kp H (upd H kp (.ins D dx (ym plv (.int (most:Nat))))):=cV.put
  have hk1:(upd H kp (.ins D dx (ym plv (.int (most:Nat))))) kp=some (.ins D dx (ym plv (.int (most:Nat)))):=aa
  generalize (upd H kp (.ins D dx (ym plv (.int (most:Nat)))))=H1 at b1 hk1 ⊢
  have hp1:=hp.av (b1.av hk) (aw ps)
  refine⟨_,rfl,_,rfl,plv,ps,xs,most,rfl,hp1,ok.bY,ok.fA,(by have:=ok.bS;omega),ok.n0,ok.pD,ok.m1,ok.m3,fun v ds H2 cc r2 s2=>?_⟩
  obtain⟨lp,lvs,rfl,hlp,rl⟩:=aL.bF r2
  obtain⟨ov,t1,rfl,ro,rl⟩:=rl.cons_inv
  obtain⟨cv,t2,rfl,rc,rl⟩:=rl.cons_inv
  have z':=rl.nil_inv
  subst z'
  have hk2:=s2 _ _ hk1
  refine⟨lp,_,rfl,ar.of hlp,rfl,_,_,rfl,_,rfl,kp,D,dx,_,rfl,hk2,TK.cl,TK.past,(by show 2<1000;decide),_,_,rfl,_,rfl,kp,D,dx,_,rfl,aa,TK.cl,TK.lH,(by rw [Dn];show 3<1000;decide),rfl,?_⟩
  rw [Dn,GL,jB]
  refine⟨_,rfl,kp,D,dx,_,rfl,aa,TK.cl,TK.times,(by show 4<1000;decide),?_⟩
  rw [GN,jB]
  have b3:cV kp H2 (upd H2 kp (.ins D dx (fS plv (.int (most:Nat)) ov cv (.int 1)))):=cV.put
  have k3:=b3.av hk2
  exact q ov cv ds _ cc (ro.av k3 (aw _)) (rc.av k3 (cK cc)) ⟨dx,aa⟩ ((b1.trans (cV.of_same s2)).trans b3)
theorem mR {f:Addr} {fd:FuncData} (F:bR K "make_anew" "Keeper.make_anew" gg f fd) (Z:Bl mg) {C:Addr} (T:nF K C) {D:Addr} (TK:iZ K D) (O_led_past:Own P w K mg base "led_past" 7 ["plan", "most"] (ik P w C)):bu P w K mg base bQ 12 f fd ["self"] (yo D):=by
 refine F.ok (k:=11) mQ (fun vs H Q E h=>?_) (fun cdv A outer s H vs Q E hr h=>?_)
 ·obtain⟨kp,plv,ov0,cv0,ps,xs,most,n,rfl,_⟩:=h
  rfl
 ·obtain⟨kp,plv,ov0,cv0,ps,xs,most,n,rfl,A,hp,ok,q⟩:=h
  refine⟨_,(af (cD (aJ O_led_past hr (aI (dB (pv 0) rfl) (dB (pv 0) rfl))) (bU rfl (aG (rM (pv 0)) (aG (rM (pv 0)) bM))))
   (ai (zM (pv 0) ah E1))),?_⟩
  obtain⟨dx,hk⟩:=A
  refine⟨_,rfl,kp,D,dx,_,_,rfl,hk,TK.cl,TK.kept,ml,_,rfl,kp,D,dx,_,_,rfl,hk,TK.cl,TK.bound,AV,plv,ps,xs,most,rfl,hp,ok.bY,ok.fA,(by have:=ok.bS;omega),ok.n0,ok.pD,ok.m1,ok.m3,fun v ds H2 cc r2 s2=>?_⟩
  obtain⟨lp,lvs,rfl,hlp,rl⟩:=aL.bF r2
  obtain⟨ov,t1,rfl,ro,rl⟩:=rl.cons_inv
  obtain⟨cv,t2,rfl,rc,rl⟩:=rl.cons_inv
  have z':=rl.nil_inv
  subst z'
  have hk2:=s2 _ _ hk
  refine⟨lp,_,rfl,ar.of hlp,rfl,_,_,rfl,_,rfl,kp,D,dx,_,rfl,hk2,TK.cl,TK.past,(by show 5<1000;decide),_,_,rfl,_,rfl,kp,D,dx,_,rfl,aa,TK.cl,TK.lH,(by rw [qe];show 5<1000;decide),rfl,?_⟩
  rw [qe,zl,jB]
  refine⟨_,rfl,kp,D,dx,_,_,rfl,aa,TK.cl,TK.times,uz,_,_,rfl,rfl,dx,_,aa,(by show 5<1000;decide),?_⟩
  rw [AW,jB]
  have b3:cV kp H2 (upd H2 kp (.ins D dx (fS plv (.int (most:Nat)) ov cv (.int (n+1))))):=cV.put
  have k3:=b3.av hk2
  exact q ov cv ds _ cc (ro.av k3 (aw _)) (rc.av k3 (cK cc)) ⟨dx,aa⟩ ((cV.of_same s2).trans b3)
theorem tF {f:Addr} {fd:FuncData} (F:bR K "mend" "Keeper.mend" jn f fd) (Z:Bl mg) {D:Addr} (TK:iZ K D)  : bu P w K mg base bQ 1 f fd ["self", "places", "pieces"] (yq D):=by
 refine F.ok (k:=0) gF (fun vs H Q E h=>?_) (fun cdv A outer s H vs Q E hr h=>?_)
 ·obtain⟨kp,la,lb,plv,ov,cv,most,n,ns,pvs,qs,ps',rfl,_⟩:=h
  rfl
 ·obtain⟨kp,la,lb,plv,ov,cv,most,n,ns,pvs,qs,ps',rfl,A,ho,hq,hla,hlb,rps,hln,hlt,q⟩:=h
  refine⟨_,(af (aX (i:=3) gF.nd (bg jP rfl Z.list sj (aH (dB (pv 0) rfl))))
   (af (dA PassesOwn.never rfl (Ex rfl Z.zip (aI (pv 1) (pv 2))) (bU rfl (aG (aB (i:=4) gF.nd) (aG (aB (i:=5) gF.nd) bM)))
   (ai (cD (pv 5) (kX (pv 3) (pv 4) set_list))))
   (ai (jL (pv 0) (bg bE rfl Z.tuple cA (aH (pv 3))) rfl)))),?_⟩
  obtain⟨dx,hk⟩:=A
  obtain⟨op,ws,rfl,e1,rws⟩:=aL.bF ho
  have hwl:ws.length=qs.length:=by have:=rws.len;rw [Ig] at this;exact this
  have hpl:pvs.length=ps'.length:=by have:=rps.len;rw [Ig] at this;exact this
  refine⟨_,rfl,kp,D,dx,_,_,rfl,hk,TK.cl,TK.past,wy,op,_,rfl,.inr (ar.of e1),fun so nso=>?_⟩
  refine bx ?_
  have s1:=ae.new (o:=.lst ws) nso
  have hso1:(upd H so (.lst ws)) so=some (.lst ws):=aa
  generalize (upd H so (.lst ws))=H1 at s1 hso1 ⊢
  have nla:la≠so:=aK hla nso
  have nlb:lb≠so:=aK hlb nso
  have hvn:(vN ns).length=ns.length:=Ig ..
  refine⟨_,rfl,_,rfl,la,lb,rfl,⟨_,aN.of (s1 _ _ hla)⟩,⟨_,aN.of (s1 _ _ hlb)⟩,?_⟩
  refine CG (K:=K) (a:=la) (b:=lb) (xs:=vN ns) (ys:=pvs) (by omega) (fun i Ic H'=>∃(u1 u2:Option V) (ws':List V),Ic=[some (.ref kp),some (.ref la),some (.ref lb),some (.ref so),u1,u2]/\H' so=some (.lst ws')/\aR H' ws' ((eX qs (ns.take i) (ps'.take i)).map bO)/\ae H H') ?_ ?_ ?_ ?_
  ·exact⟨_,_,ws,rfl,hso1,rws.same s1 (bG qs),s1⟩
  ·rintro i Ic H2 hi ⟨u1,u2,ws',rfl,h1,h2,s2⟩
   exact⟨aN.of (s2 _ _ hla),aN.of (s2 _ _ hlb)⟩
  ·rintro i x y Ic H2 t hx hy ht ⟨u1,u2,ws',rfl,h1,h2,s2⟩
   obtain⟨k,hk',rfl⟩:∃k,ns[i]?=some k/\x=V.int (k:Nat):=by
    unfold vN at hx
    rw [Iu] at hx
    cases z:ns[i]? with
    | none=>rw [z] at hx;cases hx
    | some k=>rw [z] at hx;exact⟨k,rfl,(IA.inj hx).symm⟩
   have hil:i<ps'.length:=by have:=(IE.mp hy).1;omega
   have hpi:ps'[i]?=some ps'[i]:=by simp [hil]
   generalize ps'[i]=pce at hpi
   obtain⟨v,hv,rv⟩:=rps.get (i:=i) (d:=bO pce) (by rw [Iu,hpi];rfl)
   rw [hy] at hv
   cases hv
   have s3:=ae.new (o:=.tup [.int (k:Nat),y]) ht
   refine⟨t,_,rfl,ar.of aa,rfl,_,_,rfl,_,_,rfl,rfl,?_⟩
   have h13:=s3 _ _ h1
   have h23:=h2.same s3 (bG _)
   have s03:=s2.trans s3
   generalize (upd H2 t (.tup [.int (k:Nat),y]))=H3 at h13 h23 s03 ⊢
   have hwl':ws'.length=qs.length:=by have:=h2.len;rw [Ig,jy] at this;exact this
   refine⟨_,rfl,_,rfl,_,rfl,so,_,_,k,rfl,rfl,h13,ye (by rw [hwl'];exact hlt k (IB hk')),?_⟩
   have kt:∀p zs,H3 p=some (.tup zs)->(upd H3 so (.lst (ws'.set k y))) p=some (.tup zs):=fun p zs e=>by rw [ao (bJ e h13 (by intro z;cases z))];exact e
   refine⟨_,_,ws'.set k y,rfl,aa,?_,s03.put nso⟩
   rw [take1 hk',take1 hpi,kH _ _ _ _ _ (by rw [IH,IH];omega),JX]
   exact aR.setAt ((rv.same s03 (cw pce)).av kt (cw pce)) k (h23.av kt (bG _))
  ·rintro Ic H2 ⟨u1,u2,ws',rfl,h1,h2,s2⟩
   rw [hvn,II,hln,II] at h2
   refine⟨_,rfl,so,_,rfl,.inl ⟨aN.of h1,fun t' nt'=>?_⟩⟩
   have s3:=ae.new (o:=.tup ws') nt'
   have hk3:=s3 _ _ (s2 _ _ hk)
   refine⟨_,rfl,kp,D,dx,_,rfl,hk3,TK.cl,TK.past,(by show 5<1000;decide),?_⟩
   rw [qe]
   have b4:cV kp (upd H2 t' (.tup ws')) (upd (upd H2 t' (.tup ws')) kp (.ins D dx (fS plv (.int (most:Nat)) (.ref t') cv (.int n)))):=cV.put
   refine q (.ref t') _ (.tup (b4.av hk3 _ _ aa) (h2.av (fun p zs e=>b4.av hk3 _ _ (s3 _ _ e)) (bG _))) ⟨dx,aa⟩ ((cV.of_same (s2.trans s3)).trans b4)
theorem oh {f:Addr} {fd:FuncData} (F:bR K "exchange" "Keeper.exchange" gI f fd) (Z:Bl mg) {D:Addr} (TK:iZ K D) (O_with_piece:Own P w K mg base "with_piece" 1 ["plan", "place", "piece"] pC) (O_piece_for:Own P w K mg base "piece_for" 7 ["facts", "piece", "copies"] rK) (O_Keeper_make_anew:jT P w K mg base D "make_anew" 12 ["self"] (yo D)) (O_Keeper_mend:jT P w K mg base D "mend" 1 ["self", "places", "pieces"] (yq D)):bu P w K mg base bQ 13 f fd ["self", "place", "piece"] (yt D):=by
  refine F.ok (k:=12) gh (fun vs H Q E h=>?_) (fun cdv A outer s H vs Q E hr h=>?_)
  . obtain⟨kp,plv,ov,cv,qv,most,k,n,ps,qs,p,cs,ds,xs,rfl,_⟩:=h
    rfl
  . obtain⟨kp,plv,ov,cv,qv,most,k,n,ps,qs,p,cs,ds,xs,rfl,A,hp,ho,hc,cc,hq,hk',ok,tok,hcq,hq4,q⟩:=h
    refine⟨_,(af (bo (EK (Bm oo hZ ah (pv 1) (bf aZ rfl Z.len bZ (aH (dB (pv 0) rfl)))))
      (ai vk)
      aQ)
      (af (jL (pv 0) (aJ O_with_piece hr (fb (dB (pv 0) rfl) (pv 1) (pv 2))) rfl)
      (af (eZ (i:=3) ["at", "one"] ["place"] [1] rfl gh.nd rfl rfl rfl (yg rfl Z.enumerate (aH (dB (pv 0) rfl))) rfl (by decide +kernel) (by decide +kernel) (by decide +kernel) ⟨⟨rfl,.inl rfl,rfl⟩,True.intro⟩ (fun _ _ _ _=>(ox (K:=K) (n:=2) rfl (bU (n:=2) rfl (aG (aB (i:=0) (show ((["at", "one"]:List Str)++(["place"]:List Str)).Nodup by decide +kernel) (hf:=IG rfl)) (aG (aB (i:=1) (show ((["at", "one"]:List Str)++(["place"]:List Str)).Nodup by decide +kernel) (hf:=IG rfl)) bM))))) (fun _ _ _ _=>(iF (aM bT (aF (gd (K:=K) rfl) (pv 1) ah) (pv 2) (aS _)))) (fun _ _ _ _=>(pv 0)))
      (af (eZ (i:=4) ["at"] ["piece", "self"] [2,0] rfl gh.nd rfl rfl rfl (iC (pv 3)) rfl (by decide +kernel) (by decide +kernel) (by decide +kernel) ⟨⟨rfl,.inl rfl,rfl⟩,⟨⟨rfl,.inl rfl,rfl⟩,True.intro⟩⟩ (fun _ _ _ _=>(aB (i:=0) (show ((["at"]:List Str)++(["piece", "self"]:List Str)).Nodup by decide +kernel) (hf:=IG rfl))) (fun _ _ _ _=>eB) (fun _ _ _ _=>(aJ O_piece_for hr (fb (aF (gd (K:=K) rfl) (aF (gd (K:=K) rfl) (sQ (K:=K) rfl (pv 2) rfl) (pv 0)) ah) (pv 1) (sQ (K:=K) rfl (pv 2) rfl)))))
      (af (bo (aM (wA (pZ hr)) bW (pv 4) (by with_unfolding_all rfl))
      (af (dZ (fF O_Keeper_make_anew (pv 0) (hr.mono (by decide))))
      (ai (ay bW)))
      aQ)
      (af (dZ (sD O_Keeper_mend (pv 0) (hr.mono (by decide)) (aI (pv 3) (pv 4))))
      (ai (ay (bg bE rfl Z.tuple cA (aH (pv 3))))))))))),?_⟩
    obtain⟨dx,hk⟩:=A
    obtain⟨pp,vs,rfl,e1,rvs⟩:=aL.bF (show aL H plv (.tuple (ps.map bO)) from hp)
    have hvl:vs.length=ps.length:=by have:=rvs.len;rw [Ig] at this;exact this
    refine⟨_,rfl,_,_,rfl,rfl,_,rfl,?_⟩
    refine cC (decide_eq_true (by omega)) ?_
    refine⟨_,rfl,kp,D,dx,_,_,rfl,hk,TK.cl,TK.kept,ml,pp,_,rfl,.inr (ar.of e1),_,_,rfl,rfl,_,rfl,?_⟩
    refine bB (by rw [decide_eq_true (by omega)];rfl) ?_
    refine⟨_,rfl,kp,D,dx,_,_,rfl,hk,TK.cl,TK.kept,ml,_,rfl,_,rfl,.ref pp,qv,ps,p,k,rfl,hp,hq,hk',(by have:=ok.pD;rw [Jp] at this;omega),fun plv' H1 r1 s1=>?_⟩
    have hk1:=s1 _ _ hk
    refine⟨_,rfl,kp,D,dx,_,rfl,hk1,TK.cl,TK.kept,(by show 5<1000;decide),?_⟩
    rw [CH]
    have b2:cV kp H1 (upd H1 kp (.ins D dx (fS plv' (.int (most:Nat)) ov cv (.int n)))):=cV.put
    have k2:=b2.av hk1
    have hk2:(upd H1 kp (.ins D dx (fS plv' (.int (most:Nat)) ov cv (.int n)))) kp=some (.ins D dx (fS plv' (.int (most:Nat)) ov cv (.int n))):=aa
    generalize (upd H1 kp (.ins D dx (fS plv' (.int (most:Nat)) ov cv (.int n))))=H2 at b2 k2 hk2 ⊢
    have kt2:∀p zs,H p=some (.tup zs)->H2 p=some (.tup zs):=fun p zs e=>k2 _ _ (s1 _ _ e)
    have r2:=r1.av k2 (aw _)
    have ho2:=ho.av kt2 (aw qs)
    have hc2:=hc.av kt2 (cK cc)
    have hq2:=hq.av kt2 (cw p)
    obtain⟨cp,cvs,rfl,hcp,rcvs⟩:=aL.bF hc2
    have pps2:=wu rcvs cc
    have hcl:cvs.length=cs.length:=by have:=cG pps2;rw [Ig] at this;exact this
    have b02:cV kp H H2:=(cV.of_same s1).trans b2
    clear s1 hk1 b2 k2 r1
    refine⟨_,rfl,kp,D,dx,_,_,rfl,hk2,TK.cl,TK.lH,jx,cp,rfl,.inl ⟨⟨_,ar.of hcp⟩,fun acc na=>?_⟩⟩
    refine Es (Sq:=ar K) (a:=cp) (xs:=cvs) (fun i zs Ie H'=>∃(c1 c2:Option V),Ie=[c1,c2,some (.int (k:Nat))]/\zs=vN (ip cs k i)/\H' acc=some (.lst zs)/\ae H2 H') ?_ ?_ ?_ ?_
    . exact⟨none,none,rfl,rfl,aa,ae.new na⟩
    . rintro i zs Ie H3 hi ⟨c1,c2,rfl,rfl,ha,s3⟩
      refine⟨ar.of (s3 _ _ hcp),ha,ba ?_⟩
      have:=j2 (cs:=cs) (k:=k) (i:=i)
      rw [Ig]
      omega
    . rintro i x zs Ie H3 t hx ht ⟨c1,c2,rfl,rfl,ha,s3⟩
      obtain⟨c0,hc0,oq,ou,rfl,hoq,hou⟩:=L2.fC pps2 hx
      obtain⟨c,hcs,rfl⟩:∃c,cs[i]?=some c/\fw c=c0:=by
        rw [Iu] at hc0
        cases z:cs[i]? with
        | none=>rw [z] at hc0;cases hc0
        | some c=>rw [z] at hc0;exact⟨c,rfl,IA.inj hc0⟩
      have s4:=s3.trans (ae.new (o:=.tup [.int (i:Nat),.ref oq]) ht)
      have ha4:=ae.new (o:=.tup [.int (i:Nat),.ref oq]) ht _ _ ha
      refine⟨t,_,rfl,ar.of aa,rfl,_,_,rfl,_,_,rfl,rfl,?_⟩
      generalize (upd H3 t (.tup [.int (i:Nat),.ref oq]))=H4 at s4 ha4 ⊢
      refine⟨_,rfl,oq,_,0,_,rfl,rfl,ar.of (s4 _ _ hoq),cg,_,rfl,rfl,_,rfl,?_⟩
      by_cases hck:c.1=k
      . refine cC (decide_eq_true (by show V.int ((c.1:Nat):Int)=_;rw [hck])) ?_
        refine⟨_,rfl,ha4,_,_,rfl,?_,aa,s4.put na⟩
        rw [wB hcs hck]
        unfold vN
        rw [Iw]
        rfl
      . refine bB (decide_eq_false fun z=>hck (by injection z with z;exact Int.ofNat.inj z)) ?_
        exact⟨_,_,rfl,by rw [yr hcs hck],ha4,s4⟩
    rintro zs Ie H3 ⟨c1,c2,rfl,rfl,ha,s3⟩
    rw [hcl] at ha
    have hpls:ip cs k cs.length=cF cs k:=rfl
    rw [hpls] at ha
    refine bx ?_
    have kt3:∀p zs,H2 p=some (.tup zs)->H3 p=some (.tup zs):=fun p zs e=>s3 _ _ e
    obtain⟨pc,qvs,rfl,hpc,rq⟩:=aL.bF (show aL H2 qv (.tuple [.tuple (p.1.map cn),e6 p.2]) from hq2)
    obtain⟨y1,t1,rfl,q1,rq⟩:=rq.cons_inv
    obtain⟨y2,t2,rfl,q2,rq⟩:=rq.cons_inv
    have z:=rq.nil_inv
    subst z
    obtain⟨da,wd,rfl,hda,rds⟩:=aL.bF q1
    obtain⟨ea,rfl,hea⟩:=vH q2
    have hmp:p∈ps.set k p:=List.mem_set hk' p
    have layp:=gR ok.fA ok.bY p hmp
    have dokp:=ok.bY.fe p hmp
    have fewc:∀c∈cs.map fw,jX c.2 63:=fun c hc=>by
      obtain⟨c',hc',rfl⟩:=Iv.mp hc
      exact fun ss a b=>Ir ((tok c' hc').bS ss a b) (by have:=ok.bS;omega)
    refine⟨_,rfl,acc,rfl,⟨_,aN.of ha⟩,fun acc2 na2=>?_⟩
    refine lg (K:=K) (a:=acc) (xs:=vN (cF cs k)) (fun i ys Ie H'=>∃(c1:Option V) (os:List (Option L2.End)),Ie=[c1,some (.ref pc),some (.ref kp)]/\lI cs p ((cF cs k).take i) os/\aR H' ys (os.map (lJ p))/\H' acc2=some (.lst ys)/\ae H3 H') ?_ ?_ ?_ ?_
    . exact⟨none,[],rfl,.nil,.nil,aa,ae.new na2⟩
    . rintro i ys Ie H4 hi ⟨c1,os,rfl,g1,g2,ha2,s4⟩
      refine⟨aN.of (s4 _ _ ha),ha2,ba ?_⟩
      have h1:=cG g1
      have h2:=g2.len
      have h3:=j2 (cs:=cs) (k:=k) (i:=cs.length)
      rw [hpls] at h3
      rw [IH] at h1
      rw [Ig] at h2
      omega
    . rintro i x ys Ie H4 hx' ⟨c1,os,rfl,g1,g2,ha2,s4⟩
      obtain⟨j,hj,rfl⟩:∃j,(cF cs k)[i]?=some j/\x=V.int (j:Nat):=by
        unfold vN at hx'
        rw [Iu] at hx'
        cases z:(cF cs k)[i]? with
        | none=>rw [z] at hx';cases hx'
        | some j=>rw [z] at hx';exact⟨j,rfl,(IA.inj hx').symm⟩
      obtain⟨c,hcj,hck⟩:=(oJ (cs:=cs) (k:=k) (i:=cs.length) (IB hj)).2
      obtain⟨cv1,hcv1,oq,ou,rfl,hoq,hou⟩:=fL pps2 (show (cs.map fw)[j]?=some (fw c) by rw [Iu,hcj];rfl)
      have s24:=s3.trans s4
      refine bx ?_
      refine iI ?_
      refine bh ?_
      refine⟨_,rfl,kp,D,dx,_,_,rfl,(s24 _ _ hk2),TK.cl,TK.lH,jx,_,rfl,cp,_,_,_,rfl,rfl,ar.of (s24 _ _ hcp),bV hcv1,oq,_,1,_,rfl,rfl,ar.of (s24 _ _ hoq),cS,_,rfl,_,rfl,kp,D,dx,_,_,rfl,(s24 _ _ hk2),TK.cl,TK.lH,jx,ou,pc,da,ea,cp,wd,cvs,p.1,p.2,cs.map fw,c.2,xs,rfl,FV.same hou s24,s24 _ _ hpc,s24 _ _ hda,rds.same s24 (aP p.1),s24 _ _ hea,s24 _ _ hcp,pps2.same s24,tok c (IB hcj),dokp.2,dokp.1,ok.bS,fewc,fun v o H5 hP hn hs s5=>?_⟩
      have ha5:=s5 _ _ ha2
      have kt:∀p zs,H5 p=some (.tup zs)->(upd H5 acc2 (.lst (ys++[v]))) p=some (.tup zs):=fun p zs e=>by rw [ao (bJ e ha5 (by intro z;cases z))];exact e
      have rv:aL H5 v (lJ p o):=by
        cases o with
        | none=>rw [hn rfl];exact .aT
        | some e' =>
          obtain⟨t,ea',rfl,ht,hea'⟩:=hs e' rfl
          exact .tup ht (.cons (.tup (s5 _ _ (s24 _ _ hda)) ((rds.same s24 (aP p.1)).same s5 (aP p.1))) (.cons (lC hea') .nil))
      have nL:b0 (lJ p o)=true:=by cases o <;> first | rfl | exact cw _
      refine⟨ha5,_,os++[o],rfl,?_,?_,aa,(s4.trans s5).put na2⟩
      . rw [take1 hj]
        exact L2.dE g1 (.cons ⟨c,hcj,hP⟩ .nil)
      . rw [Iw]
        exact aR.app ((g2.same s5 (lK p os)).av kt (lK p os)) (rv.av kt nL)
    rintro ys Ie H4 ⟨c1,os,rfl,g1,g2,ha2,s4⟩
    have hvl2:(vN (cF cs k)).length=(cF cs k).length:=Ig ..
    rw [hvl2,II] at g1
    refine bx ?_
    refine⟨_,rfl,acc2,_,_,rfl,rfl,aN.of ha2,g2,AX layp.1 layp.2 g1,_,rfl,?_⟩
    have s24:=s3.trans s4
    have hk4:=s24 _ _ hk2
    have r4:=r2.same s24 (aw _)
    have ho4:=ho2.same s24 (aw qs)
    obtain⟨qA,qB⟩:=q os g1
    by_cases hn:none∈os
    . refine cC (decide_eq_true (oM.mpr hn)) ?_
      refine⟨_,rfl,kp,dx,_,rfl,hk4,uO,kp,plv',ov,.ref cp,ps.set k p,xs,most,n,rfl,⟨dx,hk4⟩,r4,ok,fun ov' cv' ds' H5 cc' ro' rc' A' b5=>?_⟩
      exact qA hn plv' ov' cv' ds' H5 (r4.av (b5.av hk4) (aw _)) cc' ro' rc' A' ((b02.trans (cV.of_same s24)).trans b5)
    . refine bB (decide_eq_false fun z=>hn (oM.mp z)) ?_
      obtain⟨es,rfl⟩:=uA hn
      have rps:aR H4 ys ((es.map fun e=>((p.1,e):Piece)).map bO):=by
        have e:((es.map some).map (lJ p))=(es.map fun e=>((p.1,e):Piece)).map bO:=by rw [Js,Js];rfl
        rw [<-e];exact g2
      have hlen:(cF cs k).length=(es.map fun e=>((p.1,e):Piece)).length:=by have:=cG g1;rw [Ig] at this;rw [Ig];exact this
      refine⟨_,rfl,kp,dx,_,rfl,hk4,CI,_,rfl,_,rfl,kp,acc,acc2,plv',ov,.ref cp,most,n,cF cs k,ys,qs,_,rfl,⟨dx,hk4⟩,ho4,(by omega),s4 _ _ ha,ha2,rps,hlen,(fun j hj=>by have:=(oJ (cs:=cs) (k:=k) (i:=cs.length) hj).1;omega),fun ov' H5 ro' A' b5=>?_⟩
      have ha5:=b5 _ _ (s4 _ _ ha) (bJ (s4 _ _ ha) hk4 (by intro z;cases z))
      refine⟨_,rfl,acc,_,rfl,.inl ⟨aN.of ha5,fun t nt=>?_⟩⟩
      have s6:=ae.new (o:=.tup (vN (cF cs k))) nt
      obtain⟨dx',hk5⟩:=A'
      exact qB es rfl plv' ov' t _ aa ((r4.av (b5.av hk4) (aw _)).same s6 (aw _)) (ro'.same s6 (aw _)) ⟨dx',s6 _ _ hk5⟩ (((b02.trans (cV.of_same s24)).trans b5).trans (cV.of_same s6))
theorem tG {f:Addr} {fd:FuncData} (F:bR K "plan" "Keeper.plan" jo f fd) (Z:Bl mg) {D:Addr} (TK:iZ K D)  : bu P w K mg base bQ 1 f fd ["self"] (jd D 0):=by
 refine F.ok (k:=0) tq (fun vs H Q E h=>?_) (fun cdv A outer s H vs Q E hr h=>?_)
 ·obtain⟨kp,plv,ov,cv,most,n,rfl,_⟩:=h
  rfl
 ·obtain⟨kp,plv,ov,cv,most,n,rfl,A,q⟩:=h
  refine⟨_,(ai (ay (dB (pv 0) rfl))),?_⟩
  obtain⟨dx,hk⟩:=A
  exact⟨_,rfl,kp,D,dx,_,_,rfl,hk,TK.cl,TK.kept,ml,q⟩
theorem rY {f:Addr} {fd:FuncData} (F:bR K "other" "Keeper.other" iU f fd) (Z:Bl mg) {D:Addr} (TK:iZ K D)  : bu P w K mg base bQ 1 f fd ["self"] (jd D 1):=by
 refine F.ok (k:=0) rR (fun vs H Q E h=>?_) (fun cdv A outer s H vs Q E hr h=>?_)
 ·obtain⟨kp,plv,ov,cv,most,n,rfl,_⟩:=h
  rfl
 ·obtain⟨kp,plv,ov,cv,most,n,rfl,A,q⟩:=h
  refine⟨_,(ai (ay (dB (pv 0) rfl))),?_⟩
  obtain⟨dx,hk⟩:=A
  exact⟨_,rfl,kp,D,dx,_,_,rfl,hk,TK.cl,TK.past,wy,q⟩
theorem rZ {f:Addr} {fd:FuncData} (F:bR K "paper" "Keeper.paper" iV f fd) (Z:Bl mg) {D:Addr} (TK:iZ K D)  : bu P w K mg base bQ 1 f fd ["self"] (jd D 2):=by
 refine F.ok (k:=0) rS (fun vs H Q E h=>?_) (fun cdv A outer s H vs Q E hr h=>?_)
 ·obtain⟨kp,plv,ov,cv,most,n,rfl,_⟩:=h
  rfl
 ·obtain⟨kp,plv,ov,cv,most,n,rfl,A,q⟩:=h
  refine⟨_,(ai (ay (dB (pv 0) rfl))),?_⟩
  obtain⟨dx,hk⟩:=A
  exact⟨_,rfl,kp,D,dx,_,_,rfl,hk,TK.cl,TK.lH,jx,q⟩
theorem tH {f:Addr} {fd:FuncData} (F:bR K "made" "Keeper.made" jq f fd) (Z:Bl mg) {D:Addr} (TK:iZ K D)  : bu P w K mg base bQ 1 f fd ["self"] (jd D 3):=by
 refine F.ok (k:=0) tD (fun vs H Q E h=>?_) (fun cdv A outer s H vs Q E hr h=>?_)
 ·obtain⟨kp,plv,ov,cv,most,n,rfl,_⟩:=h
  rfl
 ·obtain⟨kp,plv,ov,cv,most,n,rfl,A,q⟩:=h
  refine⟨_,(ai (ay (dB (pv 0) rfl))),?_⟩
  obtain⟨dx,hk⟩:=A
  exact⟨_,rfl,kp,D,dx,_,_,rfl,hk,TK.cl,TK.times,uz,q⟩
theorem zx {f:Addr} {fd:FuncData} (F:bR K "_law_bag" "_law_bag" n9 f fd) (Z:Bl mg)  : bu P w K mg base bQ 1 f fd ["script", "k"] (C5 K):=by
 refine F.ok (k:=0) mB (fun vs H Q E h=>?_) (fun cdv A outer s H vs Q E hr h=>?_)
 ·obtain⟨a,ns,k,rfl,_⟩:=h
  rfl
 ·obtain⟨a,ns,k,rfl,hS,hk,q⟩:=h
  refine⟨_,(af (aX (i:=2) mB.nd ah)
   (af (bo (aM hZ (pv 1) (bf aZ rfl Z.len bZ (aH (pv 0))) (aS _))
   (ai (aX (i:=2) mB.nd (bc jI (aF cB (pv 0) (pv 1)) (bc DN (bc qx ah ah) (bc qx ah ah)))))
   aQ)
   (af (bo (aM hZ (pv 2) (bc qx ah ah) (aS _))
   (ai (ay (cP (aI ah (bc cY ah (bc jI (bc cY (bc jH (pv 2) ah) (bc jH ah (pv 1))) ah))))))
   aQ)
   (ai (ay (cP (aI (pv 2) (bc cY ah (bc jI (bc cY (pv 2) (pv 1)) ah))))))))),?_⟩
  refine⟨_,rfl,_,rfl,_,_,rfl,.inl hS,_,_,rfl,rfl,_,rfl,?_⟩
  refine cU (fun hc=>?_) (fun hc=>?_)
  ·have hl:k<((ns.map V.int).length:Nat):=of_decide_eq_true hc
   obtain⟨v,hv,hm⟩:=yN hk hl
   obtain⟨z,_,rfl⟩:=Iv.mp hm
   refine⟨_,rfl,_,rfl,_,_,_,_,rfl,rfl,hS,hv,10,60,rfl,rfl,⟨by decide,by decide,by decide⟩,10,60,rfl,rfl,⟨by decide,by decide,by decide⟩,_,_,rfl,rfl,(by unfold IntMulOk;decide +kernel),_,_,rfl,rfl,(show (0:Int)<10 ^ (60:Int).toNat*10 ^ (60:Int).toNat by decide +kernel),?_⟩
   refine⟨_,rfl,10,18,rfl,rfl,⟨by decide,by decide,by decide⟩,_,_,rfl,rfl,_,rfl,?_⟩
   refine cU (fun hd=>?_) (fun hd=>?_)
   ·refine⟨_,rfl,_,_,rfl,rfl,.inr ⟨by decide,by decide⟩,_,rfl,_,_,rfl,rfl,.inl ⟨by decide,by decide⟩,_,_,rfl,rfl,_,_,rfl,rfl,(show (0:Int)<2147483646 by decide),_,_,rfl,rfl,ln2,fun p hp=>?_⟩
    exact q p _ hp ⟨_,_,aa,by omega,by omega⟩ (ae.new hp)
   ·refine⟨_,rfl,_,rfl,_,rfl,_,_,rfl,rfl,_,_,rfl,rfl,(show (0:Int)<2147483646 by decide),_,_,rfl,rfl,ln2,fun p hp=>?_⟩
    exact q p _ hp ⟨_,_,aa,by omega,by omega⟩ (ae.new hp)
  ·refine⟨_,rfl,10,18,rfl,rfl,⟨by decide,by decide,by decide⟩,_,_,rfl,rfl,_,rfl,?_⟩
   refine cU (fun hd=>?_) (fun hd=>?_)
   ·refine⟨_,rfl,_,_,rfl,rfl,.inr ⟨by decide,by decide⟩,_,rfl,_,_,rfl,rfl,.inl ⟨by decide,by decide⟩,_,_,rfl,rfl,_,_,rfl,rfl,(show (0:Int)<2147483646 by decide),_,_,rfl,rfl,ln2,fun p hp=>?_⟩
    exact q p _ hp ⟨_,_,aa,by omega,by omega⟩ (ae.new hp)
   ·refine⟨_,rfl,_,rfl,_,rfl,_,_,rfl,rfl,_,_,rfl,rfl,(show (0:Int)<2147483646 by decide),_,_,rfl,rfl,ln2,fun p hp=>?_⟩
    exact q p _ hp ⟨_,_,aa,by omega,by omega⟩ (ae.new hp)
theorem xj {f:Addr} {fd:FuncData} (F:bR K "_law_take" "_law_take" mC f fd) (Z:Bl mg)  : bu P w K mg base bQ 1 f fd ["bag", "many"] ib:=by
 refine F.ok (k:=0) pF (fun vs H Q E h=>?_) (fun cdv A outer s H vs Q E hr h=>?_)
 ·obtain⟨b,m,rfl,_⟩:=h
  rfl
 ·obtain⟨b,m,rfl,⟨x,y,hb,h0,h1⟩,hm,q⟩:=h
  refine⟨_,(af (bo (aM lP (aF cB (pv 0) ah) ah (aS _))
   (af (aX (i:=2) pF.nd (bc jI (aF cB (pv 0) ah) (pv 1)))
   (af (cD (bc Bz (aF cB (pv 0) ah) (pv 1)) (kX (pv 0) ah set_list))
   (ai (ay (pv 2)))))
   aQ)
   (af (cD (bc jI (bc jH (aF cB (pv 0) ah) ah) ah) (kX (pv 0) ah set_list))
   (ai (ay (bc jI (bc xw (bc jI (bc jH (aF cB (pv 0) ah) (aF cB (pv 0) ah)) ah) ah) (pv 1)))))),?_⟩
  refine⟨_,rfl,b,_,0,_,rfl,rfl,aN.of hb,cg,_,_,rfl,rfl,_,rfl,?_⟩
  refine cU (fun hc=>?_) (fun hc=>?_)
  ·refine⟨_,rfl,b,_,0,_,rfl,rfl,aN.of hb,cg,_,rfl,_,_,rfl,rfl,hm.1,?_⟩
   refine⟨_,rfl,b,_,0,_,rfl,rfl,aN.of hb,cg,_,rfl,_,_,rfl,rfl,hm,_,rfl,b,_,0,0,rfl,rfl,hb,rfl,?_⟩
   refine⟨_,rfl,?_⟩
   exact q _ _ (Int.emod_nonneg _ (by have:=hm.1;omega)) (Int.emod_lt_of_pos _ hm.1) ⟨_,_,aa,h0,h1⟩ Fix.C4
  ·refine⟨_,rfl,b,_,1,_,rfl,rfl,aN.of hb,cS,_,_,rfl,rfl,.inr ⟨by decide,by decide⟩,_,_,rfl,rfl,(show (0:Int)<2147483647 by decide),_,rfl,b,_,1,1,rfl,rfl,hb,rfl,?_⟩
   refine⟨_,rfl,b,_,1,_,rfl,rfl,aN.of aa,cS,_,rfl,b,_,1,_,rfl,rfl,aN.of aa,cS,_,_,rfl,rfl,.inl ⟨by omega,by omega⟩,_,_,rfl,rfl,(show (0:Int)<2147483629 by decide),_,_,rfl,rfl,⟨by decide,by decide⟩,_,rfl,_,_,rfl,rfl,hm.1,?_⟩
   exact q _ _ (Int.emod_nonneg _ (by have:=hm.1;omega)) (Int.emod_lt_of_pos _ hm.1) ⟨_,_,aa,by omega,by omega⟩ Fix.C4
theorem wN {f:Addr} {fd:FuncData} (F:bR K "_law_names" "_law_names" kN f fd) (Z:Bl mg) (O_law_take:Own P w K mg base "_law_take" 1 ["bag", "many"] ib):bu P w K mg base bQ 2 f fd ["bag"] xG:=by
  refine F.ok (k:=1) dX (fun vs H Q E h=>?_) (fun cdv A outer s H vs Q E hr h=>?_)
  . obtain⟨b,rfl,_⟩:=h
    rfl
  . obtain⟨b,rfl,hB,q⟩:=h
    refine⟨_,(af (aX (i:=1) dX.nd bN)
      (af (aX (i:=2) dX.nd (bc cY ah (aJ O_law_take hr (aI (pv 0) ah))))
      (af (eZ (i:=3) ["k"] ["letters", "bag"] [1,0] rfl dX.nd rfl rfl rfl (er rfl Z.range (aH (bc cY ah (aJ O_law_take hr (aI (pv 0) ah))))) rfl (by decide +kernel) (by decide +kernel) (by decide +kernel) ⟨⟨rfl,.inl rfl,rfl⟩,⟨⟨rfl,.inl rfl,rfl⟩,True.intro⟩⟩ (fun _ _ _ _=>(aB (i:=0) (show ((["k"]:List Str)++(["letters", "bag"]:List Str)).Nodup by decide +kernel) (hf:=IG rfl))) (fun _ _ _ _=>eB) (fun _ _ _ _=>(aF zO (pv 1) (aJ O_law_take hr (aI (pv 2) ah)))))
      (af (aX (i:=4) dX.nd (aJ O_law_take hr (aI (pv 0) (bf aZ rfl Z.len bZ (aH (pv 3))))))
      (af (aX (i:=5) dX.nd (cP cW))
      (af (dA PassesOwn.never rfl (er rfl Z.range (aH (pv 2))) (aB (i:=6) dX.nd)
      (af (aX (i:=7) dX.nd (bg jP rfl Z.list sj (aH (pv 3))))
      (af (cD (aF zO (pv 1) (aJ O_law_take hr (aI (pv 0) ah))) (kX (pv 7) (pv 4) set_list))
      (ai (bo (aM vv (ia PySem.F.plainAttrs_str PySem.F.slot_str_join PySem.F.type_str_join xF bN (aH (pv 7))) (pv 5) (by with_unfolding_all rfl))
      (ai (dZ (ia PySem.F.plainAttrs_list PySem.F.slot_list_append PySem.F.type_list_append fB (pv 5) (aH (ia PySem.F.plainAttrs_str PySem.F.slot_str_join PySem.F.type_str_join xF bN (aH (pv 7)))))))
      aQ)))))
      (ai (ay (pv 5))))))))),?_⟩
    refine⟨_,rfl,b,4,rfl,hB,⟨by decide,by decide +kernel⟩,fun m H1 m0 m1 B1 X1=>⟨_,_,rfl,rfl,?_⟩⟩
    refine⟨_,rfl,b,8,rfl,B1,⟨by decide,by decide +kernel⟩,fun k H2 k0 k1 B2 X2=>⟨_,_,rfl,rfl,_,rfl,(by omega),(by omega),fun acc na=>?_⟩⟩
    refine iG (lo:=0) (fun i ys Ie H'=>∃(v:Option V) (cs:List Nat),Ie=[v,some (.str qK),some (.ref b)]/\ys=(cs.map one).map V.str/\cs.length=i/\(∀c∈cs,97<=c/\c<=122)/\H' acc=some (.lst ys)/\dM H' b/\Fix b H2 H') ?_ ?_ ?_ ?_
    . exact⟨none,[],rfl,rfl,rfl,(fun _ h=>nomatch h),aa,B2.new na,Fix.new na⟩
    . rintro i ys Ie H' hi ⟨v,cs,rfl,rfl,hl,_,ha,_⟩
      refine⟨ha,?_⟩
      rw [Ig,Ig]
      exact ba (by omega)
    . rintro i ys Ie H' hi ⟨v,cs,rfl,rfl,hl,hc,ha,B',X'⟩
      refine bx ?_
      refine iI ?_
      refine bh ?_
      refine⟨_,rfl,_,rfl,b,26,rfl,B',⟨by decide,by decide +kernel⟩,fun r H3 r0 r1 B3 X3=>?_⟩
      obtain⟨c,hat,c0,c1⟩:=z7 r0 r1
      have hab:acc≠b:=B2.fm na
      have ha3:=X3 acc _ ha hab
      refine⟨qK,r,c,rfl,rfl,xI,hat,ha3,_,cs++[c],rfl,?_,?_,?_,aa,?_,?_⟩
      . rw [Iw,Iw];rfl
      . rw [Io,hl];rfl
      . intro d hd
        rcases IC.mp hd with hd | hd
        . exact hc d hd
        . rw [Il.mp hd];exact⟨c0,c1⟩
      . obtain⟨x,y,e,z⟩:=B3
        exact⟨x,y,by rw [ao hab.symm];exact e,z⟩
      . intro d o hd nd
        rw [ao (aK hd na)]
        exact (X'.trans X3) d o hd nd
    . rintro ys Ie H3 ⟨v,cs,rfl,rfl,hl,hc,ha,B3,X3⟩
      have hab:acc≠b:=B2.fm na
      have hl1:1<=cs.length:=by omega
      have hl8:cs.length<=8:=by omega
      have F3:Fix b H H3:=(X1.trans X2).trans X3
      have el:(((cs.map one).map V.str).length:Int)=cs.length:=by simp
      refine⟨_,rfl,_,rfl,acc,_,rfl,.inl (aN.of ha),b,_,rfl,B3,⟨by omega,fY (by omega) (by omega)⟩,fun at_ H4 t0 t1 B4 X4=>?_⟩
      refine⟨(by show 0<=sizeLine;decide),fun nl nn=>?_⟩
      have hnb:nl≠b:=B4.fm nn
      have ha4:H4 acc=some (.lst ((cs.map one).map V.str)):=X4 acc _ ha hab
      have hna:nl≠acc:=fun z=>by rw [z,ha4] at nn;cases nn
      have F4:Fix b H H4:=F3.trans X4
      refine⟨_,rfl,_,rfl,(by omega),(by omega),kf (lo:=0) (fun i Ic H'=>∃(u1 u2:Option V) (xs:List Str),Ic=[some (.ref b),some (.str qK),some (.int (1+m)),some (.ref acc),some (.int at_),some (.ref nl),u1,u2] /\
        H' nl=some (.lst (xs.map V.str))/\xs.length<=i/\(0<i->xs≠[])/\(∀x∈xs,eG x)/\H' acc=some (.lst ((cs.map one).map V.str))/\dM H' b/\Fix b H H') ?_ ?_ ?_⟩
      . exact⟨_,_,[],rfl,aa,Ij _,(fun h=>absurd h (IJ _)),(fun _ h=>nomatch h),(by rw [ao hna.symm];exact ha4),B4.new nn,F4.trans (Fix.new nn)⟩
      . rintro i Ic H' hi ⟨u1,u2,xs,rfl,hn,hx,hx0,aW,ha',B',X'⟩
        refine⟨_,rfl,acc,_,rfl,.inl (aN.of ha'),fun nm mm=>?_⟩
        have nmb:nm≠b:=B'.fm mm
        have nma:nm≠acc:=fun z=>by rw [z,ha'] at mm;cases mm
        have nmn:nm≠nl:=fun z=>by rw [z,hn] at mm;cases mm
        refine⟨_,rfl,_,rfl,b,26,rfl,B'.new mm,⟨by decide,by decide +kernel⟩,fun r H5 r0 r1 B5 X5=>?_⟩
        obtain⟨c,hat,c0,c1⟩:=z7 r0 r1
        have h5:H5 nm=some (.lst ((cs.map one).map V.str)):=X5 nm _ aa nmb
        have hn5:H5 nl=some (.lst (xs.map V.str)):=X5 nl _ (by rw [ao nmn.symm];exact hn) hnb
        have ha5:H5 acc=some (.lst ((cs.map one).map V.str)):=X5 acc _ (by rw [ao nma.symm];exact ha') hab
        obtain⟨j,rfl⟩:∃j:Nat,at_=j:=⟨at_.toNat,by omega⟩
        have hj:j<cs.length:=by omega
        have hix:m5 ((cs.map one).map V.str).length (j:Int)=some j:=by
          unfold m5
          rw [if_pos (by omega),if_pos (by rw [el];omega)]
          simp
        refine⟨qK,r,c,rfl,rfl,xI,hat,_,rfl,_,rfl,nm,_,(j:Int),j,rfl,rfl,h5,hix,?_⟩
        have eset:((cs.map one).map V.str).set j (.str ⟨#[c]⟩)=((cs.set j c).map one).map V.str:=by
          rw [JX,JX];rfl
        rw [eset]
        have hc':∀d∈cs.set j c,97<=d/\d<=122:=fun d hd=>by
          rcases Ky hd with hd | hd
          . exact hc d hd
          . rw [hd];exact⟨c0,c1⟩
        have hjl:(((cs.set j c).map one).map (·.length)).sum+((cs.set j c).map one).length*(Str.ofString "").length<=16777216:=by
          have e1:(Str.ofString "").length=0:=by decide +kernel
          have e2:∀l:List Nat,((l.map one).map (·.length)).sum=l.length:=by
            intro l
            induction l with
            | nil=>rfl
            | cons a l ih=>simp only [IK,List.sum_cons,ih,I0];show 1+l.length=_;omega
          rw [e1,e2,Jp]
          omega
        have nk:eG (Txt.join (Str.ofString "") ((cs.set j c).map one)):=by
          rw [BB]
          have ej:=L2.join_ones (cs.set j c)
          have eL:(Txt.join Str.empty ((cs.set j c).map one)).length=(cs.set j c).length:=by
            have:=congrArg Jo ej
            rw [Jg] at this
            exact this
          refine⟨?_,?_,?_⟩
          . rw [eL,Jp];exact hl1
          . rw [eL,Jp];exact hl8
          . rw [ej];exact hc'
        have n6:upd H5 nm (.lst (((cs.set j c).map one).map V.str)) nl=some (.lst (xs.map V.str)):=by rw [ao nmn.symm];exact hn5
        have a6:upd H5 nm (.lst (((cs.set j c).map one).map V.str)) acc=some (.lst ((cs.map one).map V.str)):=by rw [ao nma.symm];exact ha5
        have B6:dM (upd H5 nm (.lst (((cs.set j c).map one).map V.str))) b:=by
          obtain⟨x,y,e,z⟩:=B5
          exact⟨x,y,by rw [ao nmb.symm];exact e,z⟩
        have F6:Fix b H (upd H5 nm (.lst (((cs.set j c).map one).map V.str))):=fun d o hd nd=>by
          have h1:=X' d o hd nd
          have nd':d≠nm:=fun z=>by rw [z,mm] at h1;cases h1
          rw [ao nd']
          exact X5 d o (by rw [ao nd'];exact h1) nd
        have flat:(xs.map V.str).all h9=true:=by
          rw [JU]
          intro v hv
          obtain⟨x,_,rfl⟩:=Iv.mp hv
          rfl
        refine⟨rfl,_,rfl,_,nm,_,rfl,rfl,aN.of aa,hjl,_,rfl,nl,_,rfl,.inl (aN.of n6),rfl,flat,_,rfl,?_⟩
        refine cU (fun hin=>?_) (fun hin=>?_)
        . refine⟨_,rfl,.inl ⟨rfl,_,aN.of n6⟩,rfl,_,rfl,_,nm,_,rfl,rfl,aN.of aa,hjl,nl,_,_,rfl,rfl,n6,?_,?_⟩
          . rw [Ig]
            have:i<4:=by omega
            exact ba (by omega)
          . refine⟨_,_,xs++[_],rfl,(by rw [aa,Iw];rfl),(by rw [Io];exact Nat.succ_le_succ hx),(fun _=>by simp),?_,(by rw [ao hna.symm];exact a6),?_,?_⟩
            . intro x hxm
              rcases IC.mp hxm with hxm | hxm
              . exact aW x hxm
              . rw [Il.mp hxm];exact nk
            . obtain⟨x,y,e,z⟩:=B6
              exact⟨x,y,by rw [ao hnb.symm];exact e,z⟩
            . intro d o hd nd
              have h1:=F6 d o hd nd
              have nd':d≠nl:=fun z=>by
                have h2:=F4 d o hd nd
                rw [z,nn] at h2
                cases h2
              rw [ao nd']
              exact h1
        . have hx':xs≠[]:=by
            intro e
            subst e
            exact hin rfl
          exact⟨_,_,xs,rfl,n6,KA hx,fun _=>hx',aW,a6,B6,F6⟩
      . rintro Ic H' ⟨u1,u2,xs,rfl,hn,hx,hx0,aW,ha',B',X'⟩
        refine⟨_,rfl,?_⟩
        have hm:(1+m).toNat<=4:=by omega
        have hm0:0<(1+m).toNat:=by omega
        exact q nl xs H' ⟨hn,hnb,hx0 hm0,by omega,aW⟩ (Ir hx hm) B' X'
theorem uU {f:Addr} {fd:FuncData} (F:bR K "_law_number" "_law_number" j7 f fd) (Z:Bl mg) (O_law_take:Own P w K mg base "_law_take" 1 ["bag", "many"] ib):bu P w K mg base bQ 2 f fd ["bag"] lU:=by
 refine F.ok (k:=1) uQ (fun vs H Q E h=>?_) (fun cdv A outer s H vs Q E hr h=>?_)
 ·obtain⟨b,rfl,_⟩:=h
  rfl
 ·obtain⟨b,rfl,hB,q⟩:=h
  refine⟨_,(af (bo (aM bT (aJ O_law_take hr (aI (pv 0) ah)) ah (aS _))
   (ai (ay (bc jH (bc fW (bc fW (bc qx ah ah) ah) (aJ O_law_take hr (aI (pv 0) ah))) (bc fW ah (bc jH ah (aJ O_law_take hr (aI (pv 0) ah)))))))
   aQ)
   (ai (ay (bc fW (aJ O_law_take hr (aI (pv 0) ah)) ah)))),?_⟩
  refine⟨_,rfl,b,8,rfl,hB,⟨by decide,by decide +kernel⟩,fun r H1 r0 r1 B1 X1=>⟨rfl,_,rfl,?_⟩⟩
  refine cU (fun hc=>?_) (fun hc=>?_)
  ·refine⟨10,40,rfl,rfl,⟨by decide,by decide,by decide⟩,_,_,rfl,rfl,?_⟩
   refine⟨_,rfl,b,3,rfl,B1,⟨by decide,by decide +kernel⟩,fun r2 H2 r20 r21 B2 X2=>⟨_,_,rfl,rfl,?_⟩⟩
   refine⟨_,rfl,b,2,rfl,B2,⟨by decide,by decide +kernel⟩,fun r3 H3 r30 r31 B3 X3=>?_⟩
   refine⟨_,_,rfl,rfl,.inl ⟨by decide,by decide⟩,_,_,rfl,rfl,_,_,rfl,rfl,.inr ⟨by omega,by omega⟩,?_⟩
   refine q _ H3 ?_ B3 ((X1.trans X2).trans X3)
   have e:(10:Int) ^ (40:Int).toNat=10 ^ 40:=by decide +kernel
   rw [e]
   obtain rfl | rfl:r3=0\/r3=1:=by omega
   ·rw [show (1:Int)-2*0=1 by decide,Int.mul_one];unfold lS;omega
   ·rw [show (1:Int)-2*1 = -1 by decide,Int.mul_neg,Int.mul_one];unfold lS;omega
  ·refine⟨_,rfl,b,8,rfl,B1,⟨by decide,by decide +kernel⟩,fun r2 H2 r20 r21 B2 X2=>⟨_,_,rfl,rfl,?_⟩⟩
   exact q _ H2 (by unfold lS;omega) B2 (X1.trans X2)
theorem xk {f:Addr} {fd:FuncData} (F:bR K "_law_deed" "_law_deed" mD f fd) (Z:Bl mg) (O_law_take:Own P w K mg base "_law_take" 1 ["bag", "many"] ib) (O_law_number:Own P w K mg base "_law_number" 2 ["bag"] lU):bu P w K mg base bQ 3 f fd ["bag", "names"] vA:=by
 refine F.ok (k:=2) kO (fun vs H Q E h=>?_) (fun cdv A outer s H vs Q E hr h=>?_)
 ·obtain⟨b,l,xs,rfl,_⟩:=h
  rfl
 ·obtain⟨b,l,xs,rfl,hB,hN,q⟩:=h
  refine⟨_,(af (aX (i:=2) kO.nd (aF cB (cP (bC bN (bC bN (bC bN (bC bN (bC bN (bC bN (bC bN cW)))))))) (aJ O_law_take hr (aI (pv 0) ah))))
   (af (aX (i:=3) kO.nd (aF cB (pv 1) (aJ O_law_take hr (aI (pv 0) (bf aZ rfl Z.len bZ (aH (pv 1)))))))
   (af (bo (aM bT (pv 2) bN (aS _))
   (ai (ay (aV (fb (pv 2) (pv 3) (aF cB (pv 1) (aJ O_law_take hr (aI (pv 0) (bf aZ rfl Z.len bZ (aH (pv 1))))))))))
   aQ)
   (af (bo (PW.pt (qw (aM bT (pv 2) bN (aS _)) (mU (aM bT (pv 2) bN (aS _)))))
   (ai (ay (aV (fb (pv 2) (pv 3) (aJ O_law_number hr (aH (pv 0)))))))
   aQ)
   (ai (ay (aV (aI (pv 2) (pv 3))))))))),?_⟩
  refine⟨HN,fun l0 m0=>?_⟩
  refine⟨_,rfl,b,7,rfl,hB.new m0,⟨by decide,by decide +kernel⟩,fun r H1 r0 r1 B1 X1=>?_⟩
  have h0:H1 l0=some (.lst [.str "put",.str "copy",.str "add",.str "read",.str "tell",.str "tell",.str "add"]):=X1 l0 _ aa (hB.fm m0)
  have F1:Fix b H H1:=(Fix.new m0).trans X1
  have N1:=hN.fix F1
  have hw:∃w:Str,(w = "put" \/ w = "copy" \/ w = "add" \/ w = "read" \/ w = "tell")/\fQ [V.str "put",.str "copy",.str "add",.str "read",.str "tell",.str "tell",.str "add"] r=some (V.str w):=by
   obtain rfl | rfl | rfl | rfl | rfl | rfl | rfl:r=0\/r=1\/r=2\/r=3\/r=4\/r=5\/r=6:=by omega
   ·exact⟨_,.inl rfl,bV (j:=0) rfl⟩
   ·exact⟨_,.inr (.inl rfl),bV (j:=1) rfl⟩
   ·exact⟨_,.inr (.inr (.inl rfl)),bV (j:=2) rfl⟩
   ·exact⟨_,.inr (.inr (.inr (.inl rfl))),bV (j:=3) rfl⟩
   ·exact⟨_,.inr (.inr (.inr (.inr rfl))),bV (j:=4) rfl⟩
   ·exact⟨_,.inr (.inr (.inr (.inr rfl))),bV (j:=5) rfl⟩
   ·exact⟨_,.inr (.inr (.inl rfl)),bV (j:=6) rfl⟩
  obtain⟨w,hw,hat⟩:=hw
  refine⟨l0,_,r,_,rfl,rfl,aN.of h0,hat,?_⟩
  obtain⟨p0,p1⟩:=N1.pos
  refine⟨_,rfl,_,rfl,_,rfl,l,_,rfl,.inl (aN.of N1.at_),b,_,rfl,B1,⟨p0,fY p0 p1⟩,fun r2 H2 r20 r21 B2 X2=>?_⟩
  have N2:=N1.fix X2
  obtain⟨x,hx,hxm⟩:=pL r20 r21
  refine⟨l,_,r2,_,rfl,rfl,aN.of N2.at_,hx,?_⟩
  refine⟨_,rfl,rfl,_,rfl,?_⟩
  rcases hw with rfl | rfl | rfl | rfl | rfl
  ·
   rw [show decide (V.str "put" = V.str "copy")=false by decide +kernel]
   refine bw ⟨_,rfl,rfl,_,rfl,?_⟩
   rw [show decide (V.str "put" = V.str "put")=true by decide +kernel]
   refine bh (bh ⟨_,rfl,_,rfl,_,rfl,b,rfl,B2,fun n H3 nk B3 X3=>⟨tQ,fun t mt=>?_⟩⟩)
   exact q _ (.put x n) _ (.tup aa (.cons (.str _) (.cons (.str _) (.cons (.int _) .nil)))) ⟨hxm,nk⟩ (B3.new mt) (((F1.trans X2).trans X3).trans (Fix.new mt))
  ·
   rw [show decide (V.str "copy" = V.str "copy")=true by decide +kernel]
   obtain⟨p0,p1⟩:=N2.pos
   refine bh ⟨_,rfl,_,rfl,_,rfl,_,rfl,_,rfl,l,_,rfl,.inl (aN.of N2.at_),b,_,rfl,B2,⟨p0,fY p0 p1⟩,fun r3 H3 r30 r31 B3 X3=>?_⟩
   have N3:=N2.fix X3
   obtain⟨y,hy,hym⟩:=pL r30 r31
   refine⟨l,_,r3,_,rfl,rfl,aN.of N3.at_,hy,tQ,fun t mt=>?_⟩
   exact q _ (.copy x y) _ (.tup aa (.cons (.str _) (.cons (.str _) (.cons (.str _) .nil)))) ⟨hxm,hym⟩ (B3.new mt) (((F1.trans X2).trans X3).trans (Fix.new mt))
  ·
   rw [show decide (V.str "add" = V.str "copy")=false by decide +kernel]
   refine bw ⟨_,rfl,rfl,_,rfl,?_⟩
   rw [show decide (V.str "add" = V.str "put")=false by decide +kernel]
   refine bw ⟨_,rfl,rfl,_,rfl,?_⟩
   rw [show decide (V.str "add" = V.str "add")=true by decide +kernel]
   refine bh ⟨_,rfl,_,rfl,_,rfl,b,rfl,B2,fun n H3 nk B3 X3=>⟨tQ,fun t mt=>?_⟩⟩
   exact q _ (.add x n) _ (.tup aa (.cons (.str _) (.cons (.str _) (.cons (.int _) .nil)))) ⟨hxm,nk⟩ (B3.new mt) (((F1.trans X2).trans X3).trans (Fix.new mt))
  ·
   rw [show decide (V.str "read" = V.str "copy")=false by decide +kernel]
   refine bw ⟨_,rfl,rfl,_,rfl,?_⟩
   rw [show decide (V.str "read" = V.str "put")=false by decide +kernel]
   refine bw ⟨_,rfl,rfl,_,rfl,?_⟩
   rw [show decide (V.str "read" = V.str "add")=false by decide +kernel]
   refine bw ⟨_,rfl,_,rfl,ln2,fun t mt=>?_⟩
   exact q _ (.read x) _ (.tup aa (.cons (.str _) (.cons (.str _) .nil))) hxm (B2.new mt) ((F1.trans X2).trans (Fix.new mt))
  ·
   rw [show decide (V.str "tell" = V.str "copy")=false by decide +kernel]
   refine bw ⟨_,rfl,rfl,_,rfl,?_⟩
   rw [show decide (V.str "tell" = V.str "put")=false by decide +kernel]
   refine bw ⟨_,rfl,rfl,_,rfl,?_⟩
   rw [show decide (V.str "tell" = V.str "add")=false by decide +kernel]
   refine bw ⟨_,rfl,_,rfl,ln2,fun t mt=>?_⟩
   exact q _ (.tell x) _ (.tup aa (.cons (.str _) (.cons (.str _) .nil))) hxm (B2.new mt) ((F1.trans X2).trans (Fix.new mt))
theorem zy {f:Addr} {fd:FuncData} (F:bR K "_law_end" "_law_end" oa f fd) (Z:Bl mg) (O_law_take:Own P w K mg base "_law_take" 1 ["bag", "many"] ib) (O_law_number:Own P w K mg base "_law_number" 2 ["bag"] lU):bu P w K mg base bQ 3 f fd ["bag", "names", "count"] vC:=by
 refine F.ok (k:=2) jA (fun vs H Q E h=>?_) (fun cdv A outer s H vs Q E hr h=>?_)
 ·obtain⟨b,l,xs,c,rfl,_⟩:=h
  rfl
 ·obtain⟨b,l,xs,c,rfl,hB,hN,c0,c1,q⟩:=h
  refine⟨_,(af (aX (i:=3) jA.nd (aJ O_law_take hr (aI (pv 0) ah)))
   (af (bo (aM bT (pv 3) ah (aS _))
   (ai (ay (aV (aH bN))))
   aQ)
   (af (bo (aM hZ (pv 3) ah (aS _))
   (ai (ay (aV (aI bN (aJ O_law_take hr (aI (pv 0) (pv 2)))))))
   aQ)
   (af (aX (i:=4) jA.nd (aF cB (cP (aI bN bN)) (bc xw (aJ O_law_take hr (aI (pv 0) ah)) ah)))
   (af (aX (i:=5) jA.nd (aF cB (pv 1) (aJ O_law_take hr (aI (pv 0) (bf aZ rfl Z.len bZ (aH (pv 1)))))))
   (ai (ay (aV (bC (pv 4) (bC (pv 5) (bC (aJ O_law_number hr (aH (pv 0))) (bC (aJ O_law_take hr (aI (pv 0) (pv 2))) (bC (aJ O_law_take hr (aI (pv 0) (pv 2))) cW))))))))))))),?_⟩
  have ck:(0:Int)<(c:Int)/\(c:Int).natAbs.log2<9000:=⟨by omega,fY (by omega) (by omega)⟩
  refine⟨_,rfl,b,9,rfl,hB,⟨by decide,by decide +kernel⟩,fun r H1 r0 r1 B1 X1=>?_⟩
  refine⟨_,rfl,rfl,_,rfl,?_⟩
  refine cU (fun hc=>?_) (fun hc=>?_)
  ·refine⟨o1,fun t mt=>?_⟩
   exact q _ .stop _ (.tup aa (.cons (.str _) .nil)) True.intro (B1.new mt) (X1.trans (Fix.new mt))
  refine⟨_,rfl,_,_,rfl,rfl,_,rfl,?_⟩
  refine cU (fun hd=>?_) (fun hd=>?_)
  ·refine⟨_,rfl,_,rfl,b,_,rfl,B1,ck,fun p H2 p0 p1 B2 X2=>⟨ln2,fun t mt=>?_⟩⟩
   obtain⟨k,rfl⟩:∃k:Nat,p=k:=⟨p.toNat,by omega⟩
   exact q _ (.go k) _ (.tup aa (.cons (.str _) (.cons (.int _) .nil))) (show k<c by omega) (B2.new mt) ((X1.trans X2).trans (Fix.new mt))
  ·refine⟨ln2,fun l0 m0=>?_⟩
   refine⟨_,rfl,b,3,rfl,B1.new m0,⟨by decide,by decide +kernel⟩,fun z H2 z0 z1 B2 X2=>⟨_,_,rfl,rfl,⟨by decide,by decide⟩,?_⟩⟩
   have h0:H2 l0=some (.lst [.str "less",.str "is"]):=X2 l0 _ aa (B1.fm m0)
   have hw:∃w:Bool,fQ [V.str "less",V.str "is"] (z / 2)=some (V.str (wT w)):=by
    obtain h | h:z / 2=0\/z / 2=1:=by omega
    ·rw [h];exact⟨true,cg⟩
    ·rw [h];exact⟨false,cS⟩
   obtain⟨w,hat⟩:=hw
   refine⟨l0,_,_,_,rfl,rfl,aN.of h0,hat,?_⟩
   have F2:Fix b H H2:=(X1.trans (Fix.new m0)).trans X2
   have N2:=hN.fix F2
   obtain⟨p0,p1⟩:=N2.pos
   refine⟨_,rfl,_,rfl,_,rfl,l,_,rfl,.inl (aN.of N2.at_),b,_,rfl,B2,⟨p0,fY p0 p1⟩,fun r3 H3 r30 r31 B3 X3=>?_⟩
   have N3:=N2.fix X3
   obtain⟨x,hx,hxm⟩:=pL r30 r31
   refine⟨l,_,r3,_,rfl,rfl,aN.of N3.at_,hx,?_⟩
   refine⟨_,rfl,_,rfl,_,rfl,b,rfl,B3,fun n H4 nk B4 X4=>?_⟩
   refine⟨_,rfl,_,rfl,b,_,rfl,B4,ck,fun p H5 p0 p1 B5 X5=>?_⟩
   refine⟨_,rfl,_,rfl,b,_,rfl,B5,ck,fun p' H6 p0' p1' B6 X6=>⟨HM,fun t mt=>?_⟩⟩
   obtain⟨k,rfl⟩:∃k:Nat,p=k:=⟨p.toNat,by omega⟩
   obtain⟨k',rfl⟩:∃k:Nat,p' = k:=⟨p'.toNat,by omega⟩
   exact q _ (.cm w x n k k') _ (.tup aa (.cons (.str _) (.cons (.str _) (.cons (.int _) (.cons (.int _) (.cons (.int _) .nil)))))) ⟨hxm,nk,by omega,by omega⟩ (B6.new mt) ((((F2.trans X3).trans X4).trans (X5.trans X6)).trans (Fix.new mt))
theorem xl {f:Addr} {fd:FuncData} (F:bR K "_law_plan" "_law_plan" mE f fd) (Z:Bl mg) (O_law_take:Own P w K mg base "_law_take" 1 ["bag", "many"] ib) (O_law_names:Own P w K mg base "_law_names" 2 ["bag"] xG) (O_law_deed:Own P w K mg base "_law_deed" 3 ["bag", "names"] vA) (O_law_end:Own P w K mg base "_law_end" 3 ["bag", "names", "count"] vC):bu P w K mg base bQ 4 f fd ["bag", "count", "most"] z6:=by
  refine F.ok (k:=3) fO (fun vs H Q E h=>?_) (fun cdv A outer s H vs Q E hr h=>?_)
  . obtain⟨b,c,m,rfl,_⟩:=h
    rfl
  . obtain⟨b,c,m,rfl,hB,c0,c1,hm,q⟩:=h
    refine⟨_,(af (aX (i:=3) fO.nd (aJ O_law_names hr (aH (pv 0))))
      (af (aX (i:=4) fO.nd (cP cW))
      (af (dA PassesOwn.never rfl (er rfl Z.range (aH (pv 1))) (aB (i:=5) fO.nd)
      (af (aX (i:=6) fO.nd (aJ O_law_take hr (aI (pv 0) (bc cY (pv 2) ah))))
      (af (aX (i:=7) fO.nd (aJ O_law_end hr (fb (pv 0) (pv 3) (pv 1))))
      (ai (dZ (ia PySem.F.plainAttrs_list PySem.F.slot_list_append PySem.F.type_list_append fB (pv 4) (aH (aV (aI (bg bE rfl Z.tuple cA (aH (eY ["j"] ["bag", "names"] [0,3] rfl (er rfl Z.range (aH (pv 6))) rfl (by decide +kernel) (by decide +kernel) (by decide +kernel) ⟨⟨rfl,.inl rfl,rfl⟩,⟨⟨rfl,.inl rfl,rfl⟩,True.intro⟩⟩ (fun _ _ _ _=>(aB (i:=0) (show ((["j"]:List Str)++(["bag", "names"]:List Str)).Nodup by decide +kernel) (hf:=IG rfl))) (fun _ _ _ _=>eB) (fun _ _ _ _=>(aJ O_law_deed hr (aI (pv 1) (pv 2))))))) (pv 7))))))))))
      (ai (ay (bg bE rfl Z.tuple cA (aH (pv 4)))))))),?_⟩
    refine⟨_,rfl,b,rfl,hB,fun l xs H1 N1 x4 B1 X1=>?_⟩
    refine⟨(by show 0<=sizeLine;decide),fun pl pn=>?_⟩
    have hpb:pl≠b:=B1.fm pn
    refine⟨_,rfl,_,rfl,(by omega),(by omega),kf (lo:=0) (fun i Ic H'=>∃(u1 u2 u3:Option V) (ps:List Piece) (vs:List V),Ic=[some (.ref b),some (.int c),some (.int m),some (.ref l),some (.ref pl),u1,u2,u3] /\
      H' pl=some (.lst vs)/\aR H' vs (ps.map bO)/\ps.length=i/\(∀p∈ps,(p.1.length<=m/\∀d∈p.1,cL xs d)/\gx xs c p.2)/\fN H' b l xs/\dM H' b/\Fix b H H'/\(∀d o,H1 d=some o->d≠b->H' d=some o)) ?_ ?_ ?_⟩
    . exact⟨_,_,_,[],[],rfl,aa,.nil,rfl,(fun _ h=>nomatch h),N1.fix (Fix.new pn),B1.new pn,X1.trans (Fix.new pn),Fix.new pn⟩
    . rintro i Ic H' hi ⟨u1,u2,u3,ps,vs,rfl,hp,hr,hl,aW,N',B',X',Y'⟩
      refine⟨_,rfl,_,rfl,_,_,rfl,rfl,b,_,rfl,B',⟨by omega,fY (by omega) (by omega)⟩,fun k H2 k0 k1 B2 X2=>?_⟩
      have N2:=N'.fix X2
      refine⟨_,rfl,_,rfl,_,rfl,b,l,xs,c,rfl,B2,N2,c0,(by omega),fun ev e H3 re ek B3 X3=>?_⟩
      have N3:=N2.fix X3
      have hp3:H3 pl=some (.lst vs):=(X2.trans X3) pl _ hp hpb
      have hr3:aR H3 vs (ps.map bO):=hr.fix B' (X2.trans X3) (bG ps)
      refine⟨_,rfl,.inl ⟨rfl,_,aN.of hp3⟩,_,rfl,_,rfl,(by omega),(by omega),fun acc na=>?_⟩
      have hab:acc≠b:=B3.fm na
      refine iG (lo:=0) (fun i ys Ie H'=>∃(v:Option V) (ds:List cN),Ie=[v,some (.ref b),some (.ref l)]/\aR H' ys (ds.map cn)/\ds.length=i/\(∀d∈ds,cL xs d)/\H' acc=some (.lst ys)/\dM H' b/\Fix b H3 H') ?_ ?_ ?_ ?_
      . exact⟨none,[],rfl,.nil,rfl,(fun _ h=>nomatch h),aa,B3.new na,Fix.new na⟩
      . rintro i' ys Ie H4 hi' ⟨v,ds,rfl,rds,hl',_,ha,_⟩
        refine⟨ha,?_⟩
        rw [rds.len,Ig]
        exact ba (by omega)
      . rintro i' ys Ie H4 hi' ⟨v,ds,rfl,rds,hl',hdk,ha,B4,X4⟩
        refine bx ?_
        refine iI ?_
        refine bh ?_
        refine⟨_,rfl,_,rfl,b,l,xs,rfl,B4,N3.fix X4,fun dv d H5 rd dk B5 X5=>?_⟩
        have ha5:=X5 acc _ ha hab
        refine⟨ha5,_,ds++[d],rfl,?_,(by rw [Io,hl'];rfl),?_,aa,?_,?_⟩
        . rw [Iw]
          refine aR.app ((rds.fix B4 X5 (aP ds)).put ha5 (aP ds)) ?_
          exact rd.av (fun p zs e=>by rw [ao (bJ e ha5 (by intro z;cases z))];exact e) (gK d)
        . intro d' hd
          rcases IC.mp hd with hd | hd
          . exact hdk d' hd
          . rw [Il.mp hd];exact dk
        . obtain⟨x,y,e,z⟩:=B5
          exact⟨x,y,by rw [ao hab.symm];exact e,z⟩
        . intro d' o hd nd
          rw [ao (aK hd na)]
          exact (X4.trans X5) d' o hd nd
      . rintro ys Ie H4 ⟨v,ds,rfl,rds,hl',hdk,ha,B4,X4⟩
        refine⟨acc,ys,rfl,.inl ⟨aN.of ha,fun tp tn=>?_⟩⟩
        refine⟨_,rfl,ln2,fun pc pcn=>?_⟩
        have S6:ae H4 (upd (upd H4 tp (.tup ys)) pc (.tup [.ref tp,ev])):=(ae.new tn).trans (ae.new pcn)
        have hp6:(upd (upd H4 tp (.tup ys)) pc (.tup [.ref tp,ev])) pl=some (.lst vs):=S6 _ _ (X4 pl _ hp3 hpb)
        refine⟨pl,_,_,rfl,rfl,hp6,?_,?_⟩
        . rw [hr.len,Ig,hl]
          exact ba (by omega)
        have hpiece:aL (upd (upd H4 tp (.tup ys)) pc (.tup [.ref tp,ev])) (.ref pc) (bO (ds,e)):=by
          refine .tup aa (.cons (.tup (ae.new pcn _ _ aa) (rds.same S6 (aP ds))) (.cons ?_ .nil))
          exact (re.fix B3 X4 (ie e)).same S6 (ie e)
        have F6:Fix b H (upd (upd H4 tp (.tup ys)) pc (.tup [.ref tp,ev])):=((X'.trans (X2.trans X3)).trans X4).trans (Fix.of_same S6)
        have plH:∀d o,H1 d=some o->d≠b->d≠pl:=fun d o hd nd z=>by rw [z,pn] at hd;cases hd
        refine⟨_,_,_,ps++[(ds,e)],vs++[.ref pc],rfl,aa,?_,(by rw [Io,hl];rfl),?_,?_,?_,?_,?_⟩
        . rw [Iw]
          refine aR.app (((hr3.fix B3 X4 (bG ps)).same S6 (bG ps)).put hp6 (bG ps)) ?_
          exact hpiece.av (fun p zs e=>by rw [ao (bJ e hp6 (by intro z;cases z))];exact e) (cw (ds,e))
        . intro p hpm
          rcases IC.mp hpm with hpm | hpm
          . exact aW p hpm
          . rw [Il.mp hpm]
            exact⟨⟨by show ds.length<=m;omega,hdk⟩,ek⟩
        . have hll:l≠pl:=fun z=>by
            have:=N1.at_
            rw [z,pn] at this
            cases this
          have N6:=(N3.fix X4).fix (Fix.of_same (b:=b) S6)
          exact⟨by rw [ao hll];exact N6.at_,N6.ne,N6.lT,N6.bS,N6.ok⟩
        . obtain⟨x,y,e',z⟩:=B4.same S6
          exact⟨x,y,by rw [ao hpb.symm];exact e',z⟩
        . intro d o hd nd
          have h1:=X1 d o hd nd
          rw [ao (plH d o h1 nd)]
          exact F6 d o hd nd
        . intro d o hd nd
          rw [ao (plH d o hd nd)]
          exact S6 d o (X4 d o ((X2.trans X3) d o (Y' d o hd nd) nd) nd)
    . rintro Ic H' ⟨u1,u2,u3,ps,vs,rfl,hp,hr,hl,aW,N',B',X',Y'⟩
      have hl':ps.length=c:=by rw [hl];omega
      refine⟨_,rfl,pl,_,rfl,.inl ⟨aN.of hp,fun tp tn=>?_⟩⟩
      refine q (.ref tp) xs ps _ (.tup aa (hr.same (ae.new tn) (bG ps))) hl' ⟨fun p hpm=>(aW p hpm).1,fun p hpm=>?_⟩ ⟨N'.ok,x4⟩ (B'.new tn) (X'.trans (Fix.new tn))
      rw [hl']
      exact (aW p hpm).2
theorem wO {f:Addr} {fd:FuncData} (F:bR K "_law_count" "_law_count" kP f fd) (Z:Bl mg) (O_law_take:Own P w K mg base "_law_take" 1 ["bag", "many"] ib):bu P w K mg base bQ 2 f fd ["bag", "most"] xH:=by
 refine F.ok (k:=1) wI (fun vs H Q E h=>?_) (fun cdv A outer s H vs Q E hr h=>?_)
 ·obtain⟨b,m,rfl,_⟩:=h
  rfl
 ·obtain⟨b,m,rfl,hB,m0,m1,q⟩:=h
  refine⟨_,(ai (ay (aF cB (cP (fb (bc cY ah (aJ O_law_take hr (aI (pv 0) (pv 1)))) (bc cY ah (aJ O_law_take hr (aI (pv 0) (bf (mX rfl) rfl Z.min vw (aI ah (pv 1)))))) (pv 1))) (aJ O_law_take hr (aI (pv 0) ah))))),?_⟩
  refine⟨_,rfl,_,rfl,b,_,rfl,hB,⟨by omega,fY (by omega) (by omega)⟩,fun r H1 r0 r1 B1 X1=>⟨_,_,rfl,rfl,?_⟩⟩
  refine⟨_,rfl,_,rfl,_,_,rfl,b,_,rfl,B1,⟨(by split <;> omega),fY (by split <;> omega) (by split <;> omega)⟩,fun r2 H2 r20 r21 B2 X2=>⟨_,_,rfl,rfl,?_⟩⟩
  refine⟨_,rfl,tQ,fun l0 n0=>?_⟩
  refine⟨_,rfl,b,3,rfl,B2.new n0,⟨by decide,by decide +kernel⟩,fun z H3 z0 z1 B3 X3=>?_⟩
  have h0:H3 l0=some (.lst [.int (1+r),.int (1+r2),.int m]):=X3 l0 _ aa (B2.fm n0)
  have hr2:r2<4:=by
   have:=r21
   split at this <;> omega
  have F3:Fix b H H3:=((X1.trans X2).trans (Fix.new n0)).trans X3
  obtain rfl | rfl | rfl:z=0\/z=1\/z=2:=by omega
  ·refine⟨l0,_,0,_,rfl,rfl,aN.of h0,cg,?_⟩
   have e:(1+r)=(((1+r).toNat:Nat):Int):=by omega
   rw [e]
   exact q _ H3 (by omega) (by omega) B3 F3
  ·refine⟨l0,_,1,_,rfl,rfl,aN.of h0,cS,?_⟩
   have e:(1+r2)=(((1+r2).toNat:Nat):Int):=by omega
   rw [e]
   exact q _ H3 (by omega) (by omega) B3 F3
  ·refine⟨l0,_,2,_,rfl,rfl,aN.of h0,at2,?_⟩
   exact q _ H3 m0 (by omega) B3 F3
theorem qq {f:Addr} {fd:FuncData} (F:bR K "_law_all_names" "_law_all_names" ix f fd) (Z:Bl mg)  : bu P w K mg base bQ 1 f fd ["plan"] AL:=by
 refine F.ok (k:=0) eM (fun vs H Q E h=>?_) (fun cdv A outer s H vs Q E hr h=>?_)
 ·obtain⟨plv,ps,xs,m,rfl,_⟩:=h
  rfl
 ·obtain⟨plv,ps,xs,m,rfl,hp,bY,hx64,q⟩:=h
  refine⟨_,(af (aX (i:=1) eM.nd pM)
   (af (dA PassesOwn.never rfl (d9 (pv 0)) (bU rfl (aG (aB (i:=2) eM.nd) (aG (aB (i:=3) eM.nd) bM)))
   (af (dA PassesOwn.never rfl (d9 (pv 2)) (aB (i:=4) eM.nd)
   (af (gX (dQ hr) (pv 1) (aF aY (pv 4) ah) gP rfl)
   (ai (bo (aM bT (aF aY (pv 4) ah) bN (aS _))
   (ai (gX (dQ hr) (pv 1) (aF aY (pv 4) ah) gP rfl))
   aQ))))
   (ai (bo (aM bT (bf aZ rfl Z.len bZ (aH (pv 3))) ah (aS _))
   (ai (gX (dQ hr) (pv 1) (aF aY (pv 3) ah) gP rfl))
   aQ))))
   (ai (ay (bf (nh rfl) rfl Z.sorted hG (aH (pv 1))))))),?_⟩
  obtain⟨pp,vs,rfl,e1,r⟩:=aL.bF hp
  have hl:=r.len
  refine fun nm nn=>?_
  have s0:=ae.new (o:=.dK []) nn
  have kl:∀(i:Nat) (ds:List cN) (kvs:List (Key×V)) (ns:List Str),(∀x∈ns,x∈xs)->KeysAre kvs ns->kvs.length<sizeLine:=fun i ds kvs ns hn h=>by
   have:=Cn hn
   rw [h.len]
   exact ba (by omega)
  refine⟨_,rfl,pp,rfl,⟨_,ar.of (s0 _ _ e1)⟩,fM (K:=K) (a:=pp) (xs:=vs) (fun i Ic H'=>∃(kvs:List (Key×V)) (u1 u2 u3:Option V),Ic=[some (.ref pp),some (.ref nm),u1,u2,u3]/\H' nm=some (.dK kvs)/\KeysAre kvs (bA (ps.take i))/\ae H H') ?_ ?_ ?_ ?_⟩
  ·exact⟨[],_,_,_,rfl,aa,rfl,s0⟩
  ·rintro i Ic H1 hi ⟨kvs,u1,u2,u3,rfl,h1,k1,s1⟩
   exact ar.of (s1 _ _ e1)
  ·rintro i x Ic H1 hi ⟨kvs,u1,u2,u3,rfl,h1,k1,s1⟩
   have hlt:i<ps.length:=by
    have:=(IE.mp hi).1
    rw [hl,Ig] at this
    exact this
   have hpi:ps[i]?=some ps[i]:=by simp [hlt]
   generalize ps[i]=pe at hpi
   obtain⟨ds,e⟩:=pe
   have hnext:=kn (f:=pNames) hpi
   have hin:∀x∈bA (ps.take (i+1)),x∈xs:=fun x hx=>by
    refine km bY x ?_
    obtain⟨p,hp',hx'⟩:=JM.mp hx
    exact JM.mpr ⟨p,JW hp',hx'⟩
   have hin':∀y,y∈bA (ps.take i)\/y∈ds.flatMap cJ\/y∈gN e->y∈xs:=fun y hy=>by
    refine hin y ?_
    unfold bA at hy ⊢
    rw [hnext,IC]
    unfold pNames at hy ⊢
    rcases hy with h | h
    ·exact .inl h
    ·exact .inr (IC.mpr h)
   obtain⟨p',xs',pc,da,ea,ws,ep,e1',el',hx',e2,e3,r3,e4⟩:=iK hp hpi
   cases ep
   rw [e1] at e1'
   cases e1'
   rw [hi] at hx'
   cases hx'
   refine⟨pc,_,rfl,ar.of (s1 _ _ e2),rfl,_,_,rfl,_,_,rfl,rfl,?_⟩
   refine⟨_,rfl,da,rfl,⟨_,ar.of (s1 _ _ e3)⟩,fM (K:=K) (a:=da) (xs:=ws) (fun j Ic H'=>∃(kvs:List (Key×V)) (u3:Option V),Ic=[some (.ref pp),some (.ref nm),some (.ref da),some (.ref ea),u3]/\H' nm=some (.dK kvs)/\KeysAre kvs (bA (ps.take i)++(ds.take j).flatMap cJ)/\ae H H') ?_ ?_ ?_ ?_⟩
   ·exact⟨kvs,_,rfl,h1,by simpa using k1,s1⟩
   ·rintro j Ic H2 hj ⟨kvs2,u3',rfl,h2,k2,s2⟩
    exact ar.of (s2 _ _ e3)
   ·rintro j y Ic H2 hj ⟨kvs2,u3',rfl,h2,k2,s2⟩
    have hjl:j<ds.length:=by
     have:=(IE.mp hj).1
     rw [r3.len,Ig] at this
     exact this
    have hdj:ds[j]?=some ds[j]:=by simp [hjl]
    generalize ds[j]=dd at hdj
    obtain⟨v,hv,rd⟩:=r3.get (i:=j) (d:=cn dd) (by rw [Iu,hdj];rfl)
    rw [hj] at hv
    cases hv
    obtain⟨dp,rfl,hdp⟩:=gY rd
    have hdp2:=s2 _ _ hdp
    have ndp:dp≠nm:=bJ hdp2 h2 (by intro z;cases z)
    have hnj:=kn (f:=cJ) hdj
    have hinj:∀y∈bA (ps.take i)++(ds.take j).flatMap cJ,y∈xs:=fun y hy=>by
     rcases IC.mp hy with h | h
     ·exact hin' y (.inl h)
     ·obtain⟨d',hd',h'⟩:=JM.mp h
      exact hin' y (.inr (.inl (JM.mpr ⟨d',JW hd',h'⟩)))
    have hmd:∀y∈cJ dd,y∈xs:=fun y hy=>hin' y (.inr (.inl (JM.mpr ⟨dd,IB hdj,hy⟩)))
    have e1d:∃tl,cJ dd=ff dd::tl:=by cases dd <;> exact⟨_,rfl⟩
    refine bx ?_
    refine⟨_,rfl,_,rfl,dp,_,1,_,rfl,rfl,ar.of hdp2,vL dd,nm,_,rfl,jg.k (k:=Sum.inr (ff dd)) h2 (kl i ds _ _ hinj k2),?_⟩
    have k3:=k2.put (ff dd) (.bl true)
    have h3:(upd H2 nm (.dK (putK kvs2 (Sum.inr (ff dd)) (.bl true)))) nm=some (.dK (putK kvs2 (Sum.inr (ff dd)) (.bl true))):=aa
    have hdp3:(upd H2 nm (.dK (putK kvs2 (Sum.inr (ff dd)) (.bl true)))) dp=some (.tup (oA dd)):=by rw [ao ndp];exact hdp2
    have s3:ae H (upd H2 nm (.dK (putK kvs2 (Sum.inr (ff dd)) (.bl true)))):=s2.put nn
    generalize (upd H2 nm (.dK (putK kvs2 (Sum.inr (ff dd)) (.bl true))))=H3 at h3 hdp3 s3
    refine⟨_,rfl,dp,_,0,_,rfl,rfl,ar.of hdp3,(by cases dd <;> exact cg:fQ (oA dd) 0=some (V.str (wD dd))),rfl,_,rfl,?_⟩
    have one:cJ dd=[ff dd]->KeysAre (putK kvs2 (Sum.inr (ff dd)) (.bl true)) (bA (ps.take i)++(ds.take (j+1)).flatMap cJ):=fun e=>by
     rw [hnj,e,<-Jc];exact k3
    cases dd with
    | put a n=>exact bB (show decide (V.str "put" = V.str "copy")=false by decide +kernel) ⟨_,_,rfl,h3,one rfl,s3⟩
    | add a n=>exact bB (show decide (V.str "add" = V.str "copy")=false by decide +kernel) ⟨_,_,rfl,h3,one rfl,s3⟩
    | read a=>exact bB (show decide (V.str "read" = V.str "copy")=false by decide +kernel) ⟨_,_,rfl,h3,one rfl,s3⟩
    | tell a=>exact bB (show decide (V.str "tell" = V.str "copy")=false by decide +kernel) ⟨_,_,rfl,h3,one rfl,s3⟩
    | copy a c =>
     refine cC (show decide (V.str "copy" = V.str "copy")=true by decide +kernel) ?_
     have hin3:∀y∈(bA (ps.take i)++(ds.take j).flatMap cJ)++[a],y∈xs:=fun y hy=>by
      rcases IC.mp hy with h | h
      ·exact hinj y h
      ·rw [Il.mp h];exact hmd a (Iy ..)
     refine⟨_,rfl,_,rfl,dp,_,2,_,rfl,rfl,ar.of hdp3,at2,nm,_,rfl,jg.k (k:=Sum.inr c) h3 (kl i ds _ _ hin3 k3),?_⟩
     refine⟨_,_,rfl,aa,?_,s3.put nn⟩
     rw [hnj,show cJ (.copy a c)=[a]++[c] from rfl,<-Jc,<-Jc]
     exact k3.put c (.bl true)
   ·rintro Ic H2 ⟨kvs2,u3',rfl,h2,k2,s2⟩
    rw [show ws.length=ds.length by rw [r3.len,Ig],II] at k2
    have e42:=s2 _ _ e4
    refine⟨_,rfl,ea,_,rfl,.inr (ar.of e42),rfl,_,rfl,?_⟩
    have none_:gN e=[]->KeysAre kvs2 (bA (ps.take (i+1))):=fun z=>by
     unfold bA at k2 ⊢
     rw [hnext]
     simp only [pNames,z,JF]
     exact k2
    cases e with
    | stop =>
     refine bB (show decide (V.int ((1:Nat):Int)=V.int 5)=false by decide +kernel) ?_
     exact⟨kvs2,_,_,_,rfl,h2,none_ rfl,s2⟩
    | go q1 =>
     refine bB (show decide (V.int ((2:Nat):Int)=V.int 5)=false by decide +kernel) ?_
     exact⟨kvs2,_,_,_,rfl,h2,none_ rfl,s2⟩
    | cm b x n q1 q2 =>
     refine cC (show decide (V.int ((5:Nat):Int)=V.int 5)=true by decide +kernel) ?_
     have hine:∀y∈bA (ps.take i)++ds.flatMap cJ,y∈xs:=fun y hy=>by
      rcases IC.mp hy with h | h
      ·exact hin' y (.inl h)
      ·exact hin' y (.inr (.inl h))
     refine⟨_,rfl,_,rfl,ea,_,1,_,rfl,rfl,ar.of e42,cS,nm,_,rfl,jg.k (k:=Sum.inr x) h2 (kl i ds _ _ hine k2),?_⟩
     refine⟨_,_,_,_,rfl,aa,?_,s2.put nn⟩
     have k3:=k2.put x (.bl true)
     unfold bA at k3 ⊢
     rw [hnext]
     simp only [pNames,gN]
     rw [<-Jc]
     exact k3
  ·rintro Ic H1 ⟨kvs,u1,u2,u3,rfl,h1,k1,s1⟩
   rw [show vs.length=ps.length by rw [hl,Ig],II] at k1
   have hf:=pT bY
   refine⟨_,rfl,nm,kvs,LS.cQ (bA ps),rfl,h1,k1,(by omega),fun l ss hperm hs hn=>?_⟩
   exact q l ss _ aa hperm hs (by rw [hperm.length_eq];omega) (s1.trans (ae.new hn))
theorem xm {f:Addr} {fd:FuncData} (F:bR K "_law_part" "_law_part" mF f fd) (Z:Bl mg)  : bu P w K mg base bQ 1 f fd ["stretch", "word", "number", "side"] xY:=by
 refine F.ok (k:=0) fc (fun vs H Q E h=>?_) (fun cdv A outer s H vs Q E hr h=>?_)
 ·obtain⟨p,b,n,side,lo,hi,rfl,_⟩:=h
  rfl
 ·obtain⟨p,b,n,side,lo,hi,rfl,hp,le,q⟩:=h
  refine⟨_,(af (cD (pv 0) (bU rfl (aG (aB (i:=4) fc.nd) (aG (aB (i:=5) fc.nd) bM))))
   (af (eF (bo (aM bT (pv 1) bN (aS _))
   (ai (bo (i6 (pv 3))
   (ai (aX (i:=5) fc.nd (aF cB (cP (aI (pv 5) (bc fW (pv 2) ah))) (bg fX rfl Z.int jQ (aH (oi (i5 (fh (pv 5))) (fU (fi Gi (pv 5) (pv 2) (aS _)))))))))
   (ai (aX (i:=4) fc.nd (aF cB (cP (aI (pv 4) (pv 2))) (bg fX rfl Z.int jQ (aH (oi (i5 (fh (pv 4))) (fU (fi hZ (pv 4) (pv 2) (aS _)))))))))))
   (ai (bo (i6 (pv 3))
   (af (bo (PW.pt (qw (PW.pt (gJ (dz (dY (pv 4))) (gn (aM hZ (pv 2) (pv 4) (aS _))))) (mU (PW.pt (gJ (dz (dY (pv 5))) (gn (aM lP (pv 2) (pv 5) (aS _))))))))
   (ai (ay bW))
   aQ)
   (ai (ay (aV (aI (pv 2) (pv 2))))))
   (af (bo (aM bT (pv 4) (pv 2) (aS _))
   (ai (aX (i:=4) fc.nd (bc cY (pv 2) ah)))
   aQ)
   (ai (bo (aM bT (pv 5) (pv 2) (aS _))
   (ai (aX (i:=5) fc.nd (bc fW (pv 2) ah)))
   aQ)))))))
   (af (bo (PW.pt (gJ (dz (dY (pv 4))) (gJ (dz (dY (pv 5))) (gn (aM lP (pv 4) (pv 5) (aS _))))))
   (ai (ay bW))
   aQ)
   (ai (ay (aV (aI (pv 4) (pv 5)))))))),?_⟩
  refine⟨_,rfl,p,_,rfl,ar.of hp,rfl,_,_,rfl,_,_,rfl,rfl,?_⟩
  refine⟨fun σ' H'=>∃lo' hi':Option Int,σ' = [some (.ref p),some (.str (wT b)),some (.int n),some (.bl side),some (vO lo'),some (vO hi')]/\pY lo' hi' = dU (wT b) lo hi n side/\ae H H',?_,?_⟩
  ·refine⟨_,rfl,rfl,_,rfl,?_⟩
   cases b with
   | true =>
    have ew:(wT true:Str) = "less" := rfl
    refine cC (show decide (V.str (wT true)=V.str "less")=true by decide +kernel) ?_
    refine⟨_,rfl,_,rfl,?_⟩
    cases side with
    | true =>
     have ep:∀hi',some (jh hi n)=hi'->pY lo hi' = dU (wT true) lo hi n true:=fun hi' e=>by
      rw [<-e,AK];simp only [dU,ew,if_pos,lW]
     refine bh ?_
     refine⟨_,rfl,_,rfl,_,_,rfl,rfl,ln2,fun l hl=>?_⟩
     cases hi with
     | none =>
      refine⟨_,rfl,_,rfl,bh (.inr ⟨_,rfl,?_⟩)⟩
      exact⟨l,_,_,_,rfl,rfl,aN.of aa,cS,lo,some (n-1),rfl,ep _ rfl,ae.new hl⟩
     | some h =>
      refine⟨_,rfl,_,rfl,bw ⟨_,rfl,_,rfl,_,_,rfl,rfl,.inr ⟨_,rfl,?_⟩⟩⟩
      have key:∀bb:Bool,fQ [vO (some h),V.int (n-1)] (if bb=true then 1 else 0)=some (vO (if bb=true then some (n-1) else some h)):=fun bb=>by
       cases bb
       ·exact cg
       ·exact cS
      refine⟨l,_,_,_,rfl,rfl,aN.of aa,key _,lo,_,rfl,ep _ ?_,ae.new hl⟩
      simp only [jh]
      by_cases hc:n<=h
      ·rw [if_pos (by omega),if_pos (decide_eq_true hc)]
      ·rw [if_neg (by omega),if_neg (fun z=>hc (of_decide_eq_true z))]
    | false =>
     have ep:∀lo',some (ji lo n)=lo'->pY lo' hi=dU (wT true) lo hi n false:=fun lo' e=>by
      rw [<-e,Cm];simp only [dU,ew,if_pos,lW,Ju,if_false]
     refine bw ?_
     refine⟨_,rfl,_,rfl,ln2,fun l hl=>?_⟩
     cases lo with
     | none =>
      refine⟨_,rfl,_,rfl,bh (.inr ⟨_,rfl,?_⟩)⟩
      exact⟨l,_,_,_,rfl,rfl,aN.of aa,cS,some n,hi,rfl,ep _ rfl,ae.new hl⟩
     | some a =>
      refine⟨_,rfl,_,rfl,bw ⟨_,rfl,_,rfl,_,_,rfl,rfl,.inr ⟨_,rfl,?_⟩⟩⟩
      have key:∀bb:Bool,fQ [vO (some a),V.int n] (if bb=true then 1 else 0)=some (vO (if bb=true then some n else some a)):=fun bb=>by
       cases bb
       ·exact cg
       ·exact cS
      refine⟨l,_,_,_,rfl,rfl,aN.of aa,key _,_,hi,rfl,ep _ ?_,ae.new hl⟩
      simp only [ji]
      by_cases hc:a<n
      ·rw [if_pos (by omega),if_pos (decide_eq_true hc)]
      ·rw [if_neg (by omega),if_neg (fun z=>hc (of_decide_eq_true z))]
   | false =>
    have ew:¬(wT false:Str) = "less" := by decide +kernel
    refine bB (show decide (V.str (wT false)=V.str "less")=false by decide +kernel) ?_
    refine⟨_,rfl,_,rfl,?_⟩
    cases side with
    | true =>
     refine bh ?_
     have eq_:dU (wT false) lo hi n true=mH lo hi n:=by simp only [dU,if_neg ew,vI,if_true]
     rw [eq_] at q
     have yes:eQ n lo hi=true->∀t,RV (upd H t (.tup [.int n,.int n])) (.ref t) (mH lo hi n):=fun h t=>by
      unfold mH;rw [if_pos h];exact⟨t,rfl,aa⟩
     have no:eQ n lo hi=false->RV H .aT (mH lo hi n):=fun h=>by
      unfold mH;rw [if_neg (by rw [h];decide)];rfl
     have fin:eQ n lo hi=true->_:=fun h=>(show EL (E3 (gu (sd 2) (gu (sd 2) lR))) ⟨fun _ _=>False,Q,fun _ _=>False,fun _ _=>False⟩ [some (.ref p),some (.str (wT false)),some (.int n),some (.bl true),some (vO lo),some (vO hi)] H from ⟨_,rfl,_,rfl,ln2,fun t nt=>q _ _ (yes h t) (ae.new nt)⟩)
     cases lo with
     | none =>
      cases hi with
      | none =>
       refine⟨_,rfl,_,rfl,bw ⟨_,rfl,_,rfl,bw (bw ?_)⟩⟩
       exact⟨_,rfl,_,rfl,ln2,fun t nt=>q _ _ (yes rfl t) (ae.new nt)⟩
      | some h =>
       refine⟨_,rfl,_,rfl,bw ⟨_,rfl,_,rfl,bh ⟨_,rfl,_,rfl,_,_,rfl,rfl,_,rfl,?_⟩⟩⟩
       refine cU (fun hc=>?_) (fun hc=>?_)
       ·refine q _ _ (no ?_) (ae.refl H)
        have:h<n:=of_decide_eq_true hc
        simp [eQ];omega
       ·refine⟨_,rfl,_,rfl,ln2,fun t nt=>q _ _ (yes ?_ t) (ae.new nt)⟩
        have:¬h<n:=fun z=>hc (decide_eq_true z)
        simp [eQ];omega
     | some a =>
      refine⟨_,rfl,_,rfl,bh ⟨_,rfl,_,rfl,_,_,rfl,rfl,_,rfl,?_⟩⟩
      refine cU (fun hc=>?_) (fun hc=>?_)
      ·refine q _ _ (no ?_) (ae.refl H)
       have:n<a:=of_decide_eq_true hc
       cases hi <;> simp [eQ] <;> omega
      ·have hna:¬n<a:=fun z=>hc (decide_eq_true z)
       cases hi with
       | none =>
        refine⟨_,rfl,_,rfl,bw (bw ?_)⟩
        refine⟨_,rfl,_,rfl,ln2,fun t nt=>q _ _ (yes ?_ t) (ae.new nt)⟩
        simp [eQ];omega
       | some h =>
        refine⟨_,rfl,_,rfl,bh ⟨_,rfl,_,rfl,_,_,rfl,rfl,_,rfl,?_⟩⟩
        refine cU (fun hc=>?_) (fun hc=>?_)
        ·refine q _ _ (no ?_) (ae.refl H)
         have:h<n:=of_decide_eq_true hc
         simp [eQ];omega
        ·refine⟨_,rfl,_,rfl,ln2,fun t nt=>q _ _ (yes ?_ t) (ae.new nt)⟩
         have:¬h<n:=fun z=>hc (decide_eq_true z)
         simp [eQ];omega
    | false =>
     refine bw ?_
     have ep:pY (if lo=some n then some (n+1) else lo) (if hi=some n then some (n-1) else hi)=dU (wT false) lo hi n false:=by
      rw [Ei le];simp only [dU,if_neg ew,vI,Ju,if_false]
     refine⟨_,rfl,_,rfl,i9,_,rfl,?_⟩
     rw [kh]
     refine cU (fun hc=>?_) (fun hc=>?_)
     ·have h1:lo=some n:=of_decide_eq_true hc
      rw [if_pos h1] at ep
      refine⟨_,rfl,_,_,rfl,rfl,?_⟩
      refine⟨_,rfl,_,rfl,i9,_,rfl,?_⟩
      rw [kh]
      refine cU (fun hd=>?_) (fun hd=>?_)
      ·rw [if_pos (of_decide_eq_true hd)] at ep
       exact⟨_,rfl,_,_,rfl,rfl,_,_,rfl,ep,ae.refl H⟩
      ·rw [if_neg (fun z=>hd (decide_eq_true z))] at ep
       exact⟨_,_,rfl,ep,ae.refl H⟩
     ·rw [if_neg (fun z=>hc (decide_eq_true z))] at ep
      refine⟨_,rfl,_,rfl,i9,_,rfl,?_⟩
      rw [kh]
      refine cU (fun hd=>?_) (fun hd=>?_)
      ·rw [if_pos (of_decide_eq_true hd)] at ep
       exact⟨_,rfl,_,_,rfl,rfl,_,_,rfl,ep,ae.refl H⟩
      ·rw [if_neg (fun z=>hd (decide_eq_true z))] at ep
       exact⟨_,_,rfl,ep,ae.refl H⟩
  rintro σ' H1 ⟨lo',hi',rfl,ec,s1⟩
  rw [<-ec] at q
  cases lo' with
  | none =>
   refine⟨_,rfl,_,rfl,bw (bw ?_)⟩
   exact⟨_,rfl,_,rfl,ln2,fun t nt=>q _ _ (by cases hi' <;> exact⟨t,rfl,aa⟩) (s1.trans (ae.new nt))⟩
  | some a =>
   cases hi' with
   | none =>
    refine⟨_,rfl,_,rfl,bh ⟨_,rfl,_,rfl,bw (bw ?_)⟩⟩
    exact⟨_,rfl,_,rfl,ln2,fun t nt=>q _ _ ⟨t,rfl,aa⟩ (s1.trans (ae.new nt))⟩
   | some h =>
    refine⟨_,rfl,_,rfl,bh ⟨_,rfl,_,rfl,bh ⟨_,rfl,_,rfl,_,_,rfl,rfl,_,rfl,?_⟩⟩⟩
    refine cU (fun hc=>?_) (fun hc=>?_)
    ·have:h<a:=of_decide_eq_true hc
     exact q _ _ (by show RV H1 .aT (if h<a then none else _);rw [if_pos this];rfl) s1
    ·have:¬h<a:=fun z=>hc (decide_eq_true z)
     exact⟨_,rfl,_,rfl,ln2,fun t nt=>q _ _ (by show RV _ (.ref t) (if h<a then none else _);rw [if_neg this];exact⟨t,rfl,aa⟩) (s1.trans (ae.new nt))⟩
theorem xn {f:Addr} {fd:FuncData} (F:bR K "_law_with" "_law_with" mG f fd) (Z:Bl mg)  : bu P w K mg base bQ 1 f fd ["facts", "name", "stretch"] sM:=by
 refine F.ok (k:=0) kQ (fun vs H Q E h=>?_) (fun cdv A outer s H vs Q E hr h=>?_)
 ·obtain⟨d,T,m,x,sv,s,rfl,_⟩:=h
  rfl
 ·obtain⟨d,T,m,x,sv,s,rfl,lt,hm,sh,q⟩:=h
  refine⟨_,(af (aX (i:=3) kQ.nd pM)
   (af (eF (xS PassesOwn.never rfl (pv 0) (aB (i:=4) kQ.nd)
   (ai (gX (dQ hr) (pv 3) (pv 4) (oz (dQ hr) (pv 0) (pv 4) (fun _ _=>rfl)) rfl))))
   (af (eF (dZ (BI (pv 3) (pv 1) bW ⟨rfl,rfl,rfl,rfl⟩)))
   (af (bo (aM (vy hr.units) (pv 2) (aV (aI bW bW)) (aS _))
   (ai (gX (dQ hr) (pv 3) (pv 1) (pv 2) rfl))
   aQ)
   (ai (ay (pv 3))))))),?_⟩
  obtain⟨kvs,ks,hd,tb,cl,hl⟩:=lt
  have kl:kvs.length=ks.length:=by have:=congrArg Jo tb.keys;simpa using this
  have ndk:(kvs.map (·.1)).Nodup:=by
   rw [tb.keys]
   exact Jq.map _ (fun a b n z=>n (Sum.inr.inj z)) tb.nd
  refine fun md nmd=>?_
  have ndm:d≠md:=aK hd nmd
  refine⟨fun σ' H'=>∃u:Option V,σ' = [some (.ref d),some (.str x),some sv,some (.ref md),u]/\H' md=some (.dK kvs)/\ae H H',?_,?_⟩
  ·refine⟨_,rfl,d,kvs,rfl,(by rw [ao ndm];exact hd),fun ob=>⟨fun j Ie H2=>∃u:Option V,Ie=[some (.ref d),some (.str x),some sv,some (.ref md),u]/\H2 d=some (.eR ob (.dK kvs))/\H2 md=some (.dK (kvs.take j))/\∀c o,H c=some o->c≠d->H2 c=some o,?_,?_,?_,?_⟩⟩
   ·refine⟨none,rfl,aa,by rw [ao ndm.symm,aa];rfl,fun c o e n=>?_⟩
    rw [ao n,ao (aK e nmd)]
    exact e
   ·rintro j Ie H2 ⟨u,_,h,_⟩
    exact h
   ·rintro j k v Ie H2 hj ⟨u,rfl,h1,h2,h3⟩
    have hj':j<kvs.length:=(IE.mp hj).1
    refine bx ?_
    have dg:eI H2 d (kV k) (some v):=.inl ⟨kvs,k,.inr ⟨ob,h1⟩,rfl,(vK ndk (IB hj)).symm⟩
    refine⟨_,rfl,_,rfl,d,v,rfl,dg,_,rfl,_,rfl,md,_,rfl,jg.k (k:=k) h2 (ba (by rw [IH];omega)),?_⟩
    refine⟨_,rfl,by rw [ao ndm];exact h1,by rw [aa,AG ndk hj],fun c o e n=>?_⟩
    rw [ao (aK e nmd)]
    exact h3 c o e n
   ·rintro Ie H2 ⟨u,rfl,h1,h2,h3⟩
    refine⟨u,rfl,by rw [ao ndm.symm,h2,II],fun c o e=>?_⟩
    by_cases z:c=d
    ·subst z
     rw [hd] at e
     cases e
     exact aa
    ·rw [ao z]
     exact h3 c o e z
  rintro σ' H1 ⟨u,rfl,hmd,s1⟩
  have tb1:Tb 0 H1 kvs ks T:=tb.av fun p xs e=>s1 _ _ e
  have sh1:SH H1 sv s:=sh.av fun p xs e=>s1 _ _ e
  refine⟨fun σ' H2=>∃(kvs2:List (Key×V)) (ks2:List Str),σ' = [some (.ref d),some (.str x),some sv,some (.ref md),u]/\H2 md=some (.dK kvs2)/\Tb 0 H2 kvs2 ks2 (cb T x cO)/\(∀y∈ks2,cb T x cO y≠cO)/\ks2.length<=m/\ae H H2,
   ⟨_,rfl,md,rfl,.inl ⟨kvs,.inl hmd⟩,_,rfl,kvs,Sum.inr x,hmd,rfl,fun v ev=>?_,fun ev=>?_⟩,?_⟩
  ·refine⟨_,_,rfl,aa,(tb1.drop x).av (fun p xs e=>by rw [ao (bJ e hmd (by intro z;cases z))];exact e),fun y hy=>?_,Ir (Jr _ _) hl,s1.put nmd⟩
   obtain⟨h1,h2⟩:=Jf.mp hy
   have hne:y≠x:=of_decide_eq_true h2
   unfold cb
   rw [if_neg hne]
   exact cl y h1
  ·have hT:T x=cO:=by
    rcases tb.val x with ⟨_,a,_⟩ | ⟨v,a,_⟩
    ·exact a
    ·rw [ev] at a;cases a
   exact⟨kvs,ks,rfl,hmd,by rw [ue hT];exact tb1,by rw [ue hT];exact cl,hl,s1⟩
  rintro σ' H2 ⟨kvs2,ks2,rfl,hm2,tb2,cl2,hl2,s2⟩
  have kl2:kvs2.length=ks2.length:=by have:=congrArg Jo tb2.keys;simpa using this
  refine⟨_,rfl,ln2,fun t nt=>?_⟩
  have s3:=ae.new (o:=.tup [.aT,.aT]) nt
  have ht:(upd H2 t (.tup [.aT,.aT])) t=some (.tup [.aT,.aT]):=aa
  generalize (upd H2 t (.tup [.aT,.aT]))=H3 at s3 ht
  have sh3:SH H3 sv s:=sh.av fun p xs e=>s3 _ _ (s2 _ _ e)
  have tb3:=tb2.av (H':=H3) fun p xs e=>s3 _ _ e
  have hm3:=s3 _ _ hm2
  refine⟨dS s,.tuple [.none,.none],sh3.rd,.tup ht (.cons .aT (.cons .aT .nil)),y9 s,rfl,(by have:=Df s;omega),_,rfl,?_⟩
  by_cases hs:s=cO
  ·refine bB (by rw [sI,decide_eq_true hs];rfl) ?_
   subst hs
   exact⟨_,rfl,q md H3 ⟨kvs2,ks2,hm3,tb3,cl2,KA hl2⟩ (s2.trans s3)⟩
  ·refine cC (by rw [sI,decide_eq_false hs];rfl) ?_
   refine⟨_,rfl,_,rfl,_,rfl,md,_,rfl,jg.k (k:=Sum.inr x) hm3 (ba (by omega)),?_⟩
   obtain⟨ks4,tb4,k4,m4⟩:=tb3.put x (.inl sh3)
   rw [AF] at tb4
   refine⟨_,rfl,q md _ ⟨_,ks4,aa,tb4.av (fun p xs e=>by rw [ao (bJ e hm3 (by intro z;cases z))];exact e),fun y hy=>?_,by omega⟩ ((s2.trans s3).put nmd)⟩
   unfold cb
   by_cases e:y=x
   ·rw [if_pos e];exact hs
   ·rw [if_neg e]
    have h1:=cl2 y (((m4 y).mp hy).elim id fun z=>absurd z e)
    unfold cb at h1
    rw [if_neg e] at h1
    exact h1
theorem uV {f:Addr} {fd:FuncData} (F:bR K "_law_behind" "_law_behind" j8 f fd) (Z:Bl mg) (O_law_with:Own P w K mg base "_law_with" 1 ["facts", "name", "stretch"] sM):bu P w K mg base bQ 2 f fd ["facts", "deeds"] yj:=by
 refine F.ok (k:=1) cH (fun vs H Q E h=>?_) (fun cdv A outer s H vs Q E hr h=>?_)
 ·obtain⟨d,p,T,m,ws,ds,pool,rfl,_⟩:=h
  rfl
 ·obtain⟨d,p,T,m,ws,ds,pool,rfl,lt,hp,r,hm,hmp,tok,dok,q⟩:=h
  refine⟨_,(af (dA PassesOwn.never rfl (d9 (pv 1)) (aB (i:=2) cH.nd)
   (af (eF (aX (i:=3) cH.nd (eW (dQ hr) (pv 0) (aF aY (pv 2) ah) (aV (aI bW bW)) ⟨rfl,rfl,rfl,rfl⟩)))
   (af (bo (aM bT (aF aY (pv 2) ah) bN (aS _))
   (ai (aX (i:=3) cH.nd (aV (aI (aF aY (pv 2) ah) (aF aY (pv 2) ah)))))
   aQ)
   (af (bo (aM bT (aF aY (pv 2) ah) bN (aS _))
   (ai (aX (i:=3) cH.nd (eW (dQ hr) (pv 0) (aF aY (pv 2) ah) (aV (aI bW bW)) ⟨rfl,rfl,rfl,rfl⟩)))
   aQ)
   (af (bo (aM bT (aF aY (pv 2) ah) bN (aS _))
   (ai (aX (i:=3) cH.nd (aV (aI bW bW))))
   aQ)
   (af (bo (aM bT (aF aY (pv 2) ah) bN (aS _))
   (af (cD (pv 3) (bU rfl (aG (aB (i:=4) cH.nd) (aG (aB (i:=5) cH.nd) bM))))
   (af (eF (bo (dz (dY (pv 4)))
   (ai (aX (i:=4) cH.nd (bc cY (pv 4) (aF aY (pv 2) ah))))
   aQ))
   (af (eF (bo (dz (dY (pv 5)))
   (ai (aX (i:=5) cH.nd (bc cY (pv 5) (aF aY (pv 2) ah))))
   aQ))
   (ai (aX (i:=3) cH.nd (aV (aI (pv 4) (pv 5))))))))
   aQ)
   (ai (aX (i:=0) cH.nd (aJ O_law_with hr (fb (pv 0) (aF aY (pv 2) ah) (pv 3)))))))))))
   (ai (ay (pv 0)))),?_⟩
  refine⟨_,rfl,p,rfl,⟨_,ar.of hp⟩,fM (K:=K) (a:=p) (xs:=ws) (fun i Ic H'=>∃(u0 u1 u2 u3:Option V) (dc:Addr),Ic=[some (.ref dc),some (.ref p),u0,u1,u2,u3]/\LT H' dc (bp T (ds.take i)) m/\ae H H') ?_ ?_ ?_ ?_⟩
  ·exact⟨_,_,_,_,d,rfl,lt,ae.refl H⟩
  ·rintro i Ic H1 hi ⟨u0,u1,u2,u3,dc,rfl,lt1,s1⟩
   exact ar.of (s1 _ _ hp)
  ·rintro i y Ic H1 hi ⟨u0,u1,u2,u3,dc,rfl,lt1,s1⟩
   have hil:i<ds.length:=by
    have:=(IE.mp hi).1
    rw [r.len,Ig] at this
    exact this
   have hdi:ds[i]?=some ds[i]:=by simp [hil]
   generalize ds[i]=dd at hdi
   obtain⟨v,hv,rd⟩:=r.get (i:=i) (d:=cn dd) (by rw [Iu,hdi];rfl)
   rw [hi] at hv
   cases hv
   have tkb:bp T (ds.take (i+1))=za (bp T (ds.take i)) dd:=by
    unfold bp
    rw [IP,hdi,KR,J9]
    rfl
   have tokI:=(tok.p8 (fun d hd=>dok d (JW hd)):cM pool (bp T (ds.take i))).GZ (dok dd (IB hdi))
   refine bx ?_
   cases dd
   case put x n =>
    obtain⟨dp,rfl,hdp⟩:=gY rd
    obtain⟨kvs1,ks1,hd1,tb1,cl1,hl1⟩:=id lt1
    refine⟨fun σ' H2=>∃v:V,σ' = [some (.ref dc),some (.ref p),some (.ref dp),some v,u2,u3]/\SH H2 v (bp T (ds.take i) x)/\ae H1 H2,⟨_,rfl,dc,rfl,.inl ⟨kvs1,.inl hd1⟩,_,rfl,dp,_,1,_,rfl,rfl,ar.of (s1 _ _ hdp),cS,ln2,fun t nt=>?_⟩,?_⟩
    ·obtain⟨v,ev,sv⟩:=LT.get (tb1.av fun p xs e=>ae.new (o:=.tup [.aT,.aT]) nt _ _ e) cl1 aa x
     exact⟨_,v,eI.k (k:=Sum.inr x) (ae.new nt _ _ hd1),ev,v,rfl,sv,ae.new nt⟩
    rintro σ' H2 ⟨v,rfl,sv,s2⟩
    have lt2:=lt1.same s2
    have hdp2:=s2 _ _ (s1 _ _ hdp)
    refine⟨_,rfl,dp,_,0,_,rfl,rfl,ar.of hdp2,cg,rfl,_,rfl,?_⟩
    refine cC (show decide (V.str "put" = V.str "put")=true by decide +kernel) ?_
    refine⟨_,rfl,dp,_,2,_,rfl,rfl,ar.of hdp2,at2,_,rfl,dp,_,2,_,rfl,rfl,ar.of hdp2,at2,ln2,fun t nt=>?_⟩
    have s3:=ae.new (o:=.tup [.int n,.int n]) nt
    have ht:(upd H2 t (.tup [.int n,.int n])) t=some (.tup [.int n,.int n]):=aa
    generalize (upd H2 t (.tup [.int n,.int n]))=H3 at s3 ht
    have hdp3:=s3 _ _ hdp2
    refine⟨_,rfl,dp,_,0,_,rfl,rfl,ar.of hdp3,cg,rfl,_,rfl,?_⟩
    refine bB (show decide (V.str "put" = V.str "copy")=false by decide +kernel) ?_
    refine⟨_,rfl,dp,_,0,_,rfl,rfl,ar.of hdp3,cg,rfl,_,rfl,?_⟩
    refine bB (show decide (V.str "put" = V.str "read")=false by decide +kernel) ?_
    refine⟨_,rfl,dp,_,0,_,rfl,rfl,ar.of hdp3,cg,rfl,_,rfl,?_⟩
    refine bB (show decide (V.str "put" = V.str "add")=false by decide +kernel) ?_
    refine⟨_,rfl,_,rfl,dp,_,1,_,rfl,rfl,ar.of hdp3,cS,_,rfl,dc,_,m,x,_,pV (bp T (ds.take i)) (.put x n),rfl,lt2.same s3,(by omega),⟨t,rfl,ht⟩,fun d' H' lt' s'=>?_⟩
    refine⟨_,_,_,_,d',rfl,?_,(s1.trans s2).trans (s3.trans s')⟩
    rw [tkb]
    exact lt'.rH (by rw [hmp];exact tokI.bS)
   case copy x y =>
    obtain⟨dp,rfl,hdp⟩:=gY rd
    obtain⟨kvs1,ks1,hd1,tb1,cl1,hl1⟩:=id lt1
    refine⟨fun σ' H2=>∃v:V,σ' = [some (.ref dc),some (.ref p),some (.ref dp),some v,u2,u3]/\SH H2 v (bp T (ds.take i) x)/\ae H1 H2,⟨_,rfl,dc,rfl,.inl ⟨kvs1,.inl hd1⟩,_,rfl,dp,_,1,_,rfl,rfl,ar.of (s1 _ _ hdp),cS,ln2,fun t nt=>?_⟩,?_⟩
    ·obtain⟨v,ev,sv⟩:=LT.get (tb1.av fun p xs e=>ae.new (o:=.tup [.aT,.aT]) nt _ _ e) cl1 aa x
     exact⟨_,v,eI.k (k:=Sum.inr x) (ae.new nt _ _ hd1),ev,v,rfl,sv,ae.new nt⟩
    rintro σ' H2 ⟨v,rfl,sv,s2⟩
    have lt2:=lt1.same s2
    have hdp2:=s2 _ _ (s1 _ _ hdp)
    refine⟨_,rfl,dp,_,0,_,rfl,rfl,ar.of hdp2,cg,rfl,_,rfl,?_⟩
    refine bB (show decide (V.str "copy" = V.str "put")=false by decide +kernel) ?_
    refine⟨_,rfl,dp,_,0,_,rfl,rfl,ar.of hdp2,cg,rfl,_,rfl,?_⟩
    refine cC (show decide (V.str "copy" = V.str "copy")=true by decide +kernel) ?_
    obtain⟨kvs2,ks2,hd2,tb2,cl2,hl2⟩:=id lt2
    refine⟨_,rfl,dc,rfl,.inl ⟨kvs2,.inl hd2⟩,_,rfl,dp,_,2,_,rfl,rfl,ar.of hdp2,at2,ln2,fun t nt=>?_⟩
    obtain⟨v2,ev2,sv2⟩:=LT.get (tb2.av fun p xs e=>ae.new (o:=.tup [.aT,.aT]) nt _ _ e) cl2 aa y
    refine⟨_,v2,eI.k (k:=Sum.inr y) (ae.new nt _ _ hd2),ev2,?_⟩
    have s3:=ae.new (o:=.tup [.aT,.aT]) nt
    clear ev2
    generalize (upd H2 t (.tup [.aT,.aT]))=H3 at s3 sv2
    have hdp3:=s3 _ _ hdp2
    refine⟨_,rfl,dp,_,0,_,rfl,rfl,ar.of hdp3,cg,rfl,_,rfl,?_⟩
    refine bB (show decide (V.str "copy" = V.str "read")=false by decide +kernel) ?_
    refine⟨_,rfl,dp,_,0,_,rfl,rfl,ar.of hdp3,cg,rfl,_,rfl,?_⟩
    refine bB (show decide (V.str "copy" = V.str "add")=false by decide +kernel) ?_
    refine⟨_,rfl,_,rfl,dp,_,1,_,rfl,rfl,ar.of hdp3,cS,_,rfl,dc,_,m,x,_,pV (bp T (ds.take i)) (.copy x y),rfl,lt2.same s3,(by omega),sv2,fun d' H' lt' s'=>?_⟩
    refine⟨_,_,_,_,d',rfl,?_,(s1.trans s2).trans (s3.trans s')⟩
    rw [tkb]
    exact lt'.rH (by rw [hmp];exact tokI.bS)
   case read x =>
    obtain⟨dp,rfl,hdp⟩:=gY rd
    obtain⟨kvs1,ks1,hd1,tb1,cl1,hl1⟩:=id lt1
    refine⟨fun σ' H2=>∃v:V,σ' = [some (.ref dc),some (.ref p),some (.ref dp),some v,u2,u3]/\SH H2 v (bp T (ds.take i) x)/\ae H1 H2,⟨_,rfl,dc,rfl,.inl ⟨kvs1,.inl hd1⟩,_,rfl,dp,_,1,_,rfl,rfl,ar.of (s1 _ _ hdp),cS,ln2,fun t nt=>?_⟩,?_⟩
    ·obtain⟨v,ev,sv⟩:=LT.get (tb1.av fun p xs e=>ae.new (o:=.tup [.aT,.aT]) nt _ _ e) cl1 aa x
     exact⟨_,v,eI.k (k:=Sum.inr x) (ae.new nt _ _ hd1),ev,v,rfl,sv,ae.new nt⟩
    rintro σ' H2 ⟨v,rfl,sv,s2⟩
    have lt2:=lt1.same s2
    have hdp2:=s2 _ _ (s1 _ _ hdp)
    refine⟨_,rfl,dp,_,0,_,rfl,rfl,ar.of hdp2,cg,rfl,_,rfl,?_⟩
    refine bB (show decide (V.str "read" = V.str "put")=false by decide +kernel) ?_
    refine⟨_,rfl,dp,_,0,_,rfl,rfl,ar.of hdp2,cg,rfl,_,rfl,?_⟩
    refine bB (show decide (V.str "read" = V.str "copy")=false by decide +kernel) ?_
    refine⟨_,rfl,dp,_,0,_,rfl,rfl,ar.of hdp2,cg,rfl,_,rfl,?_⟩
    refine cC (show decide (V.str "read" = V.str "read")=true by decide +kernel) ?_
    refine⟨ln2,fun t nt=>?_⟩
    have s3:=ae.new (o:=.tup [.aT,.aT]) nt
    have ht:(upd H2 t (.tup [.aT,.aT])) t=some (.tup [.aT,.aT]):=aa
    generalize (upd H2 t (.tup [.aT,.aT]))=H3 at s3 ht
    have hdp3:=s3 _ _ hdp2
    refine⟨_,rfl,dp,_,0,_,rfl,rfl,ar.of hdp3,cg,rfl,_,rfl,?_⟩
    refine bB (show decide (V.str "read" = V.str "add")=false by decide +kernel) ?_
    refine⟨_,rfl,_,rfl,dp,_,1,_,rfl,rfl,ar.of hdp3,cS,_,rfl,dc,_,m,x,_,pV (bp T (ds.take i)) (.read x),rfl,lt2.same s3,(by omega),⟨t,rfl,ht⟩,fun d' H' lt' s'=>?_⟩
    refine⟨_,_,_,_,d',rfl,?_,(s1.trans s2).trans (s3.trans s')⟩
    rw [tkb]
    exact lt'.rH (by rw [hmp];exact tokI.bS)
   case add x n =>
    obtain⟨dp,rfl,hdp⟩:=gY rd
    obtain⟨kvs1,ks1,hd1,tb1,cl1,hl1⟩:=id lt1
    refine⟨fun σ' H2=>∃v:V,σ' = [some (.ref dc),some (.ref p),some (.ref dp),some v,u2,u3]/\SH H2 v (bp T (ds.take i) x)/\ae H1 H2,⟨_,rfl,dc,rfl,.inl ⟨kvs1,.inl hd1⟩,_,rfl,dp,_,1,_,rfl,rfl,ar.of (s1 _ _ hdp),cS,ln2,fun t nt=>?_⟩,?_⟩
    ·obtain⟨v,ev,sv⟩:=LT.get (tb1.av fun p xs e=>ae.new (o:=.tup [.aT,.aT]) nt _ _ e) cl1 aa x
     exact⟨_,v,eI.k (k:=Sum.inr x) (ae.new nt _ _ hd1),ev,v,rfl,sv,ae.new nt⟩
    rintro σ' H2 ⟨v,rfl,sv,s2⟩
    have lt2:=lt1.same s2
    have hdp2:=s2 _ _ (s1 _ _ hdp)
    refine⟨_,rfl,dp,_,0,_,rfl,rfl,ar.of hdp2,cg,rfl,_,rfl,?_⟩
    refine bB (show decide (V.str "add" = V.str "put")=false by decide +kernel) ?_
    refine⟨_,rfl,dp,_,0,_,rfl,rfl,ar.of hdp2,cg,rfl,_,rfl,?_⟩
    refine bB (show decide (V.str "add" = V.str "copy")=false by decide +kernel) ?_
    refine⟨_,rfl,dp,_,0,_,rfl,rfl,ar.of hdp2,cg,rfl,_,rfl,?_⟩
    refine bB (show decide (V.str "add" = V.str "read")=false by decide +kernel) ?_
    refine⟨_,rfl,dp,_,0,_,rfl,rfl,ar.of hdp2,cg,rfl,_,rfl,?_⟩
    refine cC (show decide (V.str "add" = V.str "add")=true by decide +kernel) ?_
    obtain⟨sq,rfl,hsq⟩:=id sv
    refine⟨_,rfl,sq,_,rfl,ar.of hsq,rfl,_,_,rfl,_,_,rfl,rfl,?_⟩
    refine⟨fun σ' H'=>σ' = [some (.ref dc),some (.ref p),some (.ref dp),some (.ref sq),some (vO (jU (bp T (ds.take i) x).1 n)),some (vO (bp T (ds.take i) x).2)]/\H2=H',?_,?_⟩
    ·cases (bp T (ds.take i) x).1 with
     | none=>exact⟨_,rfl,_,rfl,bw ⟨rfl,rfl⟩⟩
     | some z=>exact⟨_,rfl,_,rfl,bh ⟨_,rfl,_,rfl,dp,_,2,_,rfl,rfl,ar.of hdp2,at2,_,_,rfl,rfl,rfl,rfl⟩⟩
    rintro σ' H' ⟨rfl,rfl⟩
    refine⟨fun σ' H'=>σ' = [some (.ref dc),some (.ref p),some (.ref dp),some (.ref sq),some (vO (jU (bp T (ds.take i) x).1 n)),some (vO (jU (bp T (ds.take i) x).2 n))]/\H2=H',?_,?_⟩
    ·cases (bp T (ds.take i) x).2 with
     | none=>exact⟨_,rfl,_,rfl,bw ⟨rfl,rfl⟩⟩
     | some z=>exact⟨_,rfl,_,rfl,bh ⟨_,rfl,_,rfl,dp,_,2,_,rfl,rfl,ar.of hdp2,at2,_,_,rfl,rfl,rfl,rfl⟩⟩
    rintro σ' H' ⟨rfl,rfl⟩
    refine⟨_,rfl,_,rfl,ln2,fun t nt=>?_⟩
    have s3:=ae.new (o:=.tup [vO (jU (bp T (ds.take i) x).1 n),vO (jU (bp T (ds.take i) x).2 n)]) nt
    have ht:(upd H2 t (.tup [vO (jU (bp T (ds.take i) x).1 n),vO (jU (bp T (ds.take i) x).2 n)])) t=some (.tup [vO (jU (bp T (ds.take i) x).1 n),vO (jU (bp T (ds.take i) x).2 n)]):=aa
    generalize (upd H2 t (.tup [vO (jU (bp T (ds.take i) x).1 n),vO (jU (bp T (ds.take i) x).2 n)]))=H3 at s3 ht
    have hdp3:=s3 _ _ hdp2
    refine⟨_,rfl,_,rfl,dp,_,1,_,rfl,rfl,ar.of hdp3,cS,_,rfl,dc,_,m,x,_,pV (bp T (ds.take i)) (.add x n),rfl,lt2.same s3,(by omega),⟨t,rfl,ht⟩,fun d' H' lt' s'=>?_⟩
    refine⟨_,_,_,_,d',rfl,?_,(s1.trans s2).trans (s3.trans s')⟩
    rw [tkb]
    exact lt'.rH (by rw [hmp];exact tokI.bS)
   case tell x =>
    obtain⟨dp,rfl,hdp⟩:=gY rd
    obtain⟨kvs1,ks1,hd1,tb1,cl1,hl1⟩:=id lt1
    refine⟨fun σ' H2=>∃v:V,σ' = [some (.ref dc),some (.ref p),some (.ref dp),some v,u2,u3]/\SH H2 v (bp T (ds.take i) x)/\ae H1 H2,⟨_,rfl,dc,rfl,.inl ⟨kvs1,.inl hd1⟩,_,rfl,dp,_,1,_,rfl,rfl,ar.of (s1 _ _ hdp),cS,ln2,fun t nt=>?_⟩,?_⟩
    ·obtain⟨v,ev,sv⟩:=LT.get (tb1.av fun p xs e=>ae.new (o:=.tup [.aT,.aT]) nt _ _ e) cl1 aa x
     exact⟨_,v,eI.k (k:=Sum.inr x) (ae.new nt _ _ hd1),ev,v,rfl,sv,ae.new nt⟩
    rintro σ' H2 ⟨v,rfl,sv,s2⟩
    have lt2:=lt1.same s2
    have hdp2:=s2 _ _ (s1 _ _ hdp)
    refine⟨_,rfl,dp,_,0,_,rfl,rfl,ar.of hdp2,cg,rfl,_,rfl,?_⟩
    refine bB (show decide (V.str "tell" = V.str "put")=false by decide +kernel) ?_
    refine⟨_,rfl,dp,_,0,_,rfl,rfl,ar.of hdp2,cg,rfl,_,rfl,?_⟩
    refine bB (show decide (V.str "tell" = V.str "copy")=false by decide +kernel) ?_
    refine⟨_,rfl,dp,_,0,_,rfl,rfl,ar.of hdp2,cg,rfl,_,rfl,?_⟩
    refine bB (show decide (V.str "tell" = V.str "read")=false by decide +kernel) ?_
    refine⟨_,rfl,dp,_,0,_,rfl,rfl,ar.of hdp2,cg,rfl,_,rfl,?_⟩
    refine bB (show decide (V.str "tell" = V.str "add")=false by decide +kernel) ?_
    refine⟨_,rfl,_,rfl,dp,_,1,_,rfl,rfl,ar.of hdp2,cS,_,rfl,dc,_,m,x,_,pV (bp T (ds.take i)) (.tell x),rfl,lt2.same (ae.refl H2),(by omega),sv,fun d' H' lt' s'=>?_⟩
    refine⟨_,_,_,_,d',rfl,?_,(s1.trans s2).trans ((ae.refl H2).trans s')⟩
    rw [tkb]
    exact lt'.rH (by rw [hmp];exact tokI.bS)
  ·rintro Ic H1 ⟨u0,u1,u2,u3,dc,rfl,lt1,s1⟩
   have hwl:ws.length=ds.length:=by rw [r.len,Ig]
   rw [hwl,II] at lt1
   exact⟨_,rfl,q dc H1 lt1 s1⟩
theorem uW {f:Addr} {fd:FuncData} (F:bR K "_law_covers" "_law_covers" j9 f fd) (Z:Bl mg)  : bu P w K mg base bQ 1 f fd ["one", "other"] ux:=by
 refine F.ok (k:=0) eV (fun vs H Q E h=>?_) (fun cdv A outer s H vs Q E hr h=>?_)
 ·obtain⟨d,e,T,U,m,rfl,_⟩:=h
  rfl
 ·obtain⟨d,e,T,U,m,rfl,lt,lu,q⟩:=h
  refine⟨_,(af (eF (xS PassesOwn.never rfl (pv 0) (aB (i:=2) eV.nd)
   (af (cD (oz (dQ hr) (pv 0) (pv 2) (fun _ _=>rfl)) (bU rfl (aG (aB (i:=3) eV.nd) (aG (aB (i:=4) eV.nd) bM))))
   (af (cD (eW (dQ hr) (pv 1) (pv 2) (aV (aI bW bW)) ⟨rfl,rfl,rfl,rfl⟩) (bU rfl (aG (aB (i:=5) eV.nd) (aG (aB (i:=6) eV.nd) bM))))
   (af (bo (PW.pt (gJ (dz (dY (pv 3))) (gn (PW.pt (qw (dz (fh (pv 5))) (mU (aM hZ (pv 5) (pv 3) (aS _))))))))
   (ai (ay gP))
   aQ)
   (ai (bo (PW.pt (gJ (dz (dY (pv 4))) (gn (PW.pt (qw (dz (fh (pv 6))) (mU (aM lP (pv 6) (pv 4) (aS _))))))))
   (ai (ay gP))
   aQ)))))))
   (ai (ay gP))),?_⟩
  obtain⟨kvs,ks,hd,tb,cl,hl⟩:=lt
  obtain⟨kvu,ku,he,tu,cu,hu⟩:=lu
  have ndk:(kvs.map (·.1)).Nodup:=by
   rw [tb.keys]
   exact Jq.map _ (fun a b n z=>n (Sum.inr.inj z)) tb.nd
  refine⟨fun σ' H'=>(∀x∈ks,jr (U x) (T x)=true)/\ae H H',?_,?_⟩
  ·refine⟨_,rfl,d,kvs,rfl,hd,fun ob=>⟨fun j Ie H2=>∃u0 u1 u2 u3 u4:Option V,Ie=[some (.ref d),some (.ref e),u0,u1,u2,u3,u4]/\H2 d=some (.eR ob (.dK kvs))/\(∀c o,H c=some o->c≠d->H2 c=some o)/\(∀x∈ks.take j,jr (U x) (T x)=true),?_,?_,?_,?_⟩⟩
   ·exact⟨_,_,_,_,_,rfl,aa,(fun c o e n=>by rw [ao n];exact e),(fun x hx=>by simp at hx)⟩
   ·rintro j Ie H2 ⟨u0,u1,u2,u3,u4,_,h,_⟩
    exact h
   ·rintro j k v Ie H2 hj ⟨u0,u1,u2,u3,u4,rfl,h1,h2,h3⟩
    obtain⟨x,hx,rfl⟩:∃x,ks[j]?=some x/\k=Sum.inr x:=by
     have e1:(kvs.map (·.1))[j]?=some k:=by rw [Iu,hj];rfl
     rw [tb.keys,Iu] at e1
     cases e2:ks[j]? with
     | none=>rw [e2] at e1;cases e1
     | some y=>rw [e2] at e1;exact⟨y,rfl,(IA.inj e1).symm⟩
    have hxm:x∈ks:=IB hx
    have hvv:=vK ndk (IB hj)
    obtain⟨q2,rfl,hq2⟩:SH H v (T x):=by
     rcases tb.val x with ⟨a,_,_⟩ | ⟨w,a,b,c⟩
     ·rw [hvv] at a;cases a
     ·rw [hvv] at a
      cases a
      rcases b with b | ⟨_,b⟩
      ·exact b
      ·exact absurd b (cl x c)
    have q2d:q2≠d:=bJ hq2 hd (by intro z;cases z)
    have hq22:=h2 _ _ hq2 q2d
    have he2:H2 e=some (.dK kvu)\/∃ob,H2 e=some (.eR ob (.dK kvu)):=by
     by_cases z:e=d
     ·subst z
      rw [hd] at he
      cases he
      exact .inr ⟨ob,h1⟩
     ·exact .inl (h2 _ _ he z)
    have ktu:∀p zs,H p=some (.tup zs)->H2 p=some (.tup zs):=fun p zs e=>h2 p _ e (bJ e hd (by intro z;cases z))
    have dg:eI H2 d (.str x) (some (.ref q2)):=.inl ⟨kvs,Sum.inr x,.inr ⟨ob,h1⟩,rfl,hvv.symm⟩
    generalize eT:T x=tt at hq2 hq22
    obtain⟨lo,hi⟩:=tt
    refine bx ?_
    refine⟨_,rfl,_,rfl,d,_,rfl,dg,q2,_,rfl,ar.of hq22,rfl,_,_,rfl,_,_,rfl,rfl,?_⟩
    refine⟨_,rfl,e,rfl,.inl ⟨kvu,he2⟩,_,rfl,ln2,fun t nt=>?_⟩
    have s3:=ae.new (o:=.tup [.aT,.aT]) nt
    obtain⟨w,ew,q3,rfl,hq3⟩:=LT.get ((tu.av ktu).av fun p zs e=>s3 _ _ e) cu aa x
    generalize eU:U x=uu at hq3
    obtain⟨lo2,hi2⟩:=uu
    refine⟨_,_,.inl ⟨kvu,Sum.inr x,he2.imp (fun h=>s3 _ _ h) (fun ⟨ob,h⟩=>⟨ob,s3 _ _ h⟩),rfl,rfl⟩,ew,q3,_,rfl,ar.of hq3,rfl,_,_,rfl,_,_,rfl,rfl,?_⟩
    clear ew
    have h1':=s3 _ _ h1
    have h2':∀c o,H c=some o->c≠d->(upd H2 t (.tup [.aT,.aT])) c=some o:=fun c o e n=>s3 _ _ (h2 c o e n)
    clear s3 hq3
    generalize (upd H2 t (.tup [.aT,.aT]))=H3 at h1' h2' ⊢
    have sm:ae H (upd H3 d (.dK kvs)):=fun c o e=>by
     by_cases z:c=d
     ·subst z;rw [hd] at e;cases e;exact aa
     ·rw [ao z];exact h2' c o e z
    have bad:jr (U x) (T x)=false->Q (.bl false) (upd H3 d (.dK kvs)):=fun h=>q false _ ⟨(fun z=>by cases z),(fun z=>by rw [z x] at h;cases h)⟩ sm
    have tky:∀y∈ks.take (j+1),y∈ks.take j\/y=x:=fun y hy=>by
     rw [IP,hx] at hy
     rcases IC.mp hy with h | h
     ·exact .inl h
     ·exact .inr (by simpa using h)
    cases lo with
    | none =>
     have hlw:fJ lo2 none=true:=by cases lo2 <;> rfl
     refine⟨_,rfl,_,rfl,bw (bw ?_)⟩
     cases hi with
     | none =>
      have hhw:dJ hi2 none=true:=by cases hi2 <;> rfl
      exact⟨_,rfl,_,rfl,bw (bw (by exact⟨_,_,_,_,_,rfl,h1',h2',fun y hy=>(tky y hy).elim (h3 y) fun z=>by rw [z,eT,eU];show (fJ lo2 none&&dJ hi2 none)=true;rw [hlw,hhw];rfl⟩))⟩
     | some f =>
      cases hi2 with
      | none=>exact⟨_,rfl,_,rfl,bh ⟨_,rfl,_,rfl,bh (bh ⟨ob,h1',bad (by rw [eT,eU];exact J3 _)⟩)⟩⟩
      | some g =>
       refine⟨_,rfl,_,rfl,bh ⟨_,rfl,_,rfl,bw ⟨_,rfl,_,rfl,_,_,rfl,rfl,_,rfl,?_⟩⟩⟩
       refine cU (fun hc=>?_) (fun hc=>?_)
       ·have hlt:f<g:=of_decide_eq_true hc
        have hhw:dJ (some g) (some f)=false:=decide_eq_false (by omega)
        exact⟨ob,h1',bad (by rw [eT,eU];show (fJ lo2 none&&dJ (some g) (some f))=false;rw [hhw];exact J3 _)⟩
       ·have hlt:¬f<g:=fun z=>hc (decide_eq_true z)
        have hhw:dJ (some g) (some f)=true:=decide_eq_true (by omega)
        exact⟨_,_,_,_,_,rfl,h1',h2',fun y hy=>(tky y hy).elim (h3 y) fun z=>by rw [z,eT,eU];show (fJ lo2 none&&dJ (some g) (some f))=true;rw [hlw,hhw];rfl⟩
    | some a =>
     cases lo2 with
     | none=>exact⟨_,rfl,_,rfl,bh ⟨_,rfl,_,rfl,bh (bh ⟨ob,h1',bad (by rw [eT,eU];rfl)⟩)⟩⟩
     | some c =>
      refine⟨_,rfl,_,rfl,bh ⟨_,rfl,_,rfl,bw ⟨_,rfl,_,rfl,_,_,rfl,rfl,_,rfl,?_⟩⟩⟩
      refine cU (fun hc=>?_) (fun hc=>?_)
      ·have hlt:c<a:=of_decide_eq_true hc
       have hlw:fJ (some c) (some a)=false:=decide_eq_false (by omega)
       exact⟨ob,h1',bad (by rw [eT,eU];show (fJ (some c) (some a)&&dJ hi2 hi)=false;rw [hlw];rfl)⟩
      ·have hlt:¬c<a:=fun z=>hc (decide_eq_true z)
       have hlw:fJ (some c) (some a)=true:=decide_eq_true (by omega)
       cases hi with
       | none =>
        have hhw:dJ hi2 none=true:=by cases hi2 <;> rfl
        exact⟨_,rfl,_,rfl,bw (bw (by exact⟨_,_,_,_,_,rfl,h1',h2',fun y hy=>(tky y hy).elim (h3 y) fun z=>by rw [z,eT,eU];show (fJ (some c) (some a)&&dJ hi2 none)=true;rw [hlw,hhw];rfl⟩))⟩
       | some f =>
        cases hi2 with
        | none=>exact⟨_,rfl,_,rfl,bh ⟨_,rfl,_,rfl,bh (bh ⟨ob,h1',bad (by rw [eT,eU];exact J3 _)⟩)⟩⟩
        | some g =>
         refine⟨_,rfl,_,rfl,bh ⟨_,rfl,_,rfl,bw ⟨_,rfl,_,rfl,_,_,rfl,rfl,_,rfl,?_⟩⟩⟩
         refine cU (fun hc=>?_) (fun hc=>?_)
         ·have hlt:f<g:=of_decide_eq_true hc
          have hhw:dJ (some g) (some f)=false:=decide_eq_false (by omega)
          exact⟨ob,h1',bad (by rw [eT,eU];show (fJ (some c) (some a)&&dJ (some g) (some f))=false;rw [hhw];exact J3 _)⟩
         ·have hlt:¬f<g:=fun z=>hc (decide_eq_true z)
          have hhw:dJ (some g) (some f)=true:=decide_eq_true (by omega)
          exact⟨_,_,_,_,_,rfl,h1',h2',fun y hy=>(tky y hy).elim (h3 y) fun z=>by rw [z,eT,eU];show (fJ (some c) (some a)&&dJ (some g) (some f))=true;rw [hlw,hhw];rfl⟩
   ·rintro Ie H2 ⟨u0,u1,u2,u3,u4,rfl,h1,h2,h3⟩
    have hkl:kvs.length=ks.length:=by have:=congrArg Jo tb.keys;simpa using this
    rw [hkl,II] at h3
    refine⟨h3,fun c o e=>?_⟩
    by_cases z:c=d
    ·subst z;rw [hd] at e;cases e;exact aa
    ·rw [ao z];exact h2 c o e z
  rintro σ' H1 ⟨hall,s1⟩
  refine q true H1 ⟨fun _ x=>?_,fun _=>rfl⟩ s1
  by_cases hT:T x=cO
  ·rw [hT];exact sN _
  ·refine hall x ?_
   rcases tb.val x with ⟨_,a,_⟩ | ⟨_,_,_,a⟩
   ·exact absurd a hT
   ·exact a
theorem r9 {f:Addr} {fd:FuncData} (F:bR K "_law_table_of" "_law_table_of" iW f fd) (Z:Bl mg)  : bu P w K mg base bQ 1 f fd ["facts"] rG:=by
 refine F.ok (k:=0) fT (fun vs H Q E h=>?_) (fun cdv A outer s H vs Q E hr h=>?_)
 ·obtain⟨fv,T,m,rfl,_⟩:=h
  rfl
 ·obtain⟨fv,T,m,rfl,hf,bS,hm,q⟩:=h
  refine⟨_,(af (aX (i:=1) fT.nd pM)
   (af (dA PassesOwn.never rfl (d9 (pv 0)) (bU rfl (aG (aB (i:=2) fT.nd) (aG (aB (i:=3) fT.nd) bM)))
   (ai (gX (dQ hr) (pv 1) (pv 2) (pv 3) rfl)))
   (ai (ay (pv 1))))),?_⟩
  obtain⟨p,xs,ss,rfl,hp,srt,hss,r⟩:=hf
  have hl:=r.len
  rw [Ig] at hl
  have hsl:ss.length<=m:=bS ss (fun x hx=>(hss x).mp hx) srt.nd
  refine fun d nd=>?_
  have s0:=ae.new (o:=.dK []) nd
  refine⟨_,rfl,p,rfl,⟨_,ar.of (s0 _ _ hp)⟩,fM (K:=K) (a:=p) (xs:=xs) (fun i Ic H'=>∃(kvs:List (Key×V)) (ks:List Str) (u1 u2:Option V),Ic=[some (.ref p),some (.ref d),u1,u2]/\H' d=some (.dK kvs)/\Tb 0 H' kvs ks (qc T (ss.take i))/\(∀x,x∈ks↔x∈ss.take i)/\ks.length<=i/\ae H H') ?_ ?_ ?_ ?_⟩
  ·refine⟨[],[],_,_,rfl,aa,⟨rfl,JS,fun x=>.inl ⟨rfl,?_,by simp⟩⟩,fun x=>by simp,Ij _,s0⟩
   unfold qc
   rw [if_neg (by simp)]
  ·rintro i Ic H1 hi ⟨kvs,ks,u1,u2,rfl,h1,h2,h3,h4,s1⟩
   exact ar.of (s1 _ _ hp)
  ·rintro i y Ic H1 hi ⟨kvs,ks,u1,u2,rfl,h1,h2,h3,h4,s1⟩
   have hil:i<ss.length:=by have:=(IE.mp hi).1;omega
   have hsi:ss[i]?=some ss[i]:=by simp [hil]
   generalize ss[i]=x at hsi
   obtain⟨v,hv,rv⟩:=r.get (i:=i) (d:=dF T x) (by rw [Iu,hsi];rfl)
   rw [hi] at hv
   cases hv
   obtain⟨qa,qvs,rfl,hqa,rq⟩:=aL.bF rv
   obtain⟨y1,t1,rfl,q1,rq⟩:=rq.cons_inv
   obtain⟨y2,t2,rfl,q2,rq⟩:=rq.cons_inv
   have z:=rq.nil_inv
   subst z
   have ey1:=q1.str_inv
   subst ey1
   refine⟨qa,_,rfl,ar.of (s1 _ _ hqa),rfl,_,_,rfl,_,_,rfl,rfl,?_⟩
   have kl:kvs.length=ks.length:=by have:=congrArg Jo h2.keys;simpa using this
   obtain⟨sp,rfl,hsp⟩:=Ct q2
   refine⟨_,rfl,_,rfl,_,rfl,d,_,rfl,jg.k (k:=Sum.inr x) h1 (ba (by omega)),?_⟩
   obtain⟨ks2,tb2,kl2,km2⟩:=h2.put x (v:=.ref sp) (s:=T x) (.inl ⟨sp,rfl,s1 _ _ hsp⟩)
   rw [Cr] at tb2
   have htk:ss.take (i+1)=ss.take i++[x]:=by rw [IP,hsi];rfl
   refine⟨_,ks2,_,_,rfl,aa,?_,fun y=>?_,by omega,s1.put nd⟩
   ·rw [htk]
    exact tb2.av fun p zs e=>by rw [ao (bJ e h1 (by intro z;cases z))];exact e
   ·rw [km2,h3,htk,IC,Il]
  ·rintro Ic H1 ⟨kvs,ks,u1,u2,rfl,h1,h2,h3,h4,s1⟩
   rw [hl,II] at h2 h3
   rw [Cs hss] at h2
   exact⟨_,rfl,q d H1 nd ⟨kvs,ks,h1,h2,fun x hx=>(hss x).mp ((h3 x).mp hx),by omega⟩ s1⟩
theorem wQ {f:Addr} {fd:FuncData} (F:bR K "_law_leads" "_law_leads" kR f fd) (Z:Bl mg) (O_law_part:Own P w K mg base "_law_part" 1 ["stretch", "word", "number", "side"] xY) (O_law_with:Own P w K mg base "_law_with" 1 ["facts", "name", "stretch"] sM):bu P w K mg base bQ 3 f fd ["facts", "end"] uy:=by
 refine F.ok (k:=2) iy (fun vs H Q E h=>?_) (fun cdv A outer s H vs Q E hr h=>?_)
 ·obtain⟨d,ea,T,e,m,rfl,_⟩:=h
  rfl
 ·obtain⟨d,ea,T,e,m,rfl,lt,hm,le,he,q⟩:=h
  refine⟨_,(af (bo (aM bT (aF aY (pv 1) ah) bN (aS _))
   (ai (ay (cP cW)))
   aQ)
   (af (bo (aM bT (aF aY (pv 1) ah) bN (aS _))
   (ai (ay (cP (aH (aV (fb bW (aF aY (pv 1) ah) (pv 0)))))))
   aQ)
   (af (aX (i:=2) iy.nd (cP cW))
   (af (dA PassesOwn.never rfl (iC (cP (aI gP gP))) (aB (i:=3) iy.nd)
   (af (eF (aX (i:=4) iy.nd (aJ O_law_part hr (wo (eW (dQ hr) (pv 0) (aF aY (pv 1) ah) (aV (aI bW bW)) ⟨rfl,rfl,rfl,rfl⟩) (aF aY (pv 1) ah) (aF aY (pv 1) ah) (pv 3)))))
   (ai (bo (dz (dY (pv 4)))
   (ai (dZ (ia PySem.F.plainAttrs_list PySem.F.slot_list_append PySem.F.type_list_append fB (pv 2) (aH (aV (fb (pv 3) (aF aY (pv 1) (bc fW ah (bg fX rfl Z.int jQ (aH (pv 3))))) (aJ O_law_with hr (fb (pv 0) (aF aY (pv 1) ah) (pv 4)))))))))
   aQ))))
   (ai (ay (pv 2))))))),?_⟩
  refine⟨_,rfl,ea,_,0,_,rfl,rfl,ar.of he,(by cases e <;> exact cg:fQ (dm e) 0=some (V.str (wE e))),rfl,_,rfl,?_⟩
  cases e with
  | stop =>
   refine cC (show decide (V.str "stop" = V.str "stop")=true by decide +kernel) ?_
   exact⟨(by show 0<=sizeLine;decide),fun l hl=>q l [] _ aa .nil (ae.new hl)⟩
  | go p =>
   refine bB (show decide (V.str "go" = V.str "stop")=false by decide +kernel) ?_
   refine⟨_,rfl,ea,_,0,_,rfl,rfl,ar.of he,cg,rfl,_,rfl,?_⟩
   refine cC (show decide (V.str "go" = V.str "go")=true by decide +kernel) ?_
   refine⟨_,rfl,ea,_,1,_,rfl,rfl,ar.of he,cS,_,rfl,tQ,fun t nt=>⟨o1,fun l hl=>?_⟩⟩
   have q1:=ae.new (o:=.tup [.aT,.int (p:Nat),.ref d]) nt
   have q2:=ae.new (o:=.lst [V.ref t]) hl
   exact q l _ _ aa (.cons ⟨t,d,rfl,q2 _ _ aa,((lt.same q1).same q2).up (Jl _)⟩ .nil) (q1.trans q2)
  | cm b x n p r =>
   refine bB (show decide (V.str (wT b)=V.str "stop")=false by cases b <;> decide +kernel) ?_
   refine⟨_,rfl,ea,_,0,_,rfl,rfl,ar.of he,cg,rfl,_,rfl,?_⟩
   refine bB (show decide (V.str (wT b)=V.str "go")=false by cases b <;> decide +kernel) ?_
   refine⟨(by show 0<=sizeLine;decide),fun fl hfl=>?_⟩
   have s1:=ae.new (o:=.lst []) hfl
   have hfl1:(upd H fl (.lst [])) fl=some (.lst []):=aa
   generalize (upd H fl (.lst []))=H1 at s1 hfl1
   refine⟨ln2,fun sl hsl=>⟨sl,rfl,⟨_,aN.of aa⟩,?_⟩⟩
   have s2:=ae.new (o:=.lst [.bl true,.bl false]) hsl
   have hsl2:(upd H1 sl (.lst [.bl true,.bl false])) sl=some (.lst [.bl true,.bl false]):=aa
   have nsl:sl≠fl:=(aK hfl1 hsl).symm
   have hfl2:=s2 _ _ hfl1
   generalize (upd H1 sl (.lst [.bl true,.bl false]))=H2 at s2 hsl2 hfl2
   refine vp (K:=K) (a:=sl) (xs:=[.bl true,.bl false]) (fun i Ic H'=>∃(u1 u2:Option V) (vs:List V),Ic=[some (.ref d),some (.ref ea),some (.ref fl),u1,u2]/\H' fl=some (.lst vs)/\H' sl=some (.lst [.bl true,.bl false])/\iB (m+1) H' vs ((([true,false]:List Bool).take i).filterMap fun side=>(de T b x n side).map fun s=>((some side,(if side=true then p else r),cb T x s):Ld))/\vs.length<=i/\ae H H') ?_ ?_ ?_ ?_
   ·exact⟨_,_,[],rfl,hfl2,hsl2,.nil,Ij _,s1.trans s2⟩
   ·rintro i Ic H3 hi ⟨u1,u2,vs,rfl,h1,h2,tv,hvl,s3⟩
    exact aN.of h2
   ·rintro i y Ic H3 hi ⟨u1,u2,vs,rfl,h1,h2,tv,hvl,s3⟩
    obtain⟨side,rfl,hsd,hi2⟩:∃side:Bool,y=.bl side/\([true,false]:List Bool)[i]?=some side/\i<2:=by
     match i,hi with
     | 0,hi=>cases hi;exact⟨true,rfl,rfl,by omega⟩
     | 1,hi=>cases hi;exact⟨false,rfl,rfl,by omega⟩
     | i+2,hi=>simp at hi
    have hnext:=zj (T:=T) (b:=b) (x:=x) (n:=n) (p:=p) (r:=r) hsd
    have he3:=s3 _ _ he
    have lt3:=lt.same s3
    obtain⟨kvs,ks,hd3,tb3,cl3,hl3⟩:=id lt3
    refine bx ?_
    refine⟨fun σ' H'=>∃v:V,σ' = [some (.ref d),some (.ref ea),some (.ref fl),some (.bl side),some v]/\RV H' v (de T b x n side)/\ae H3 H',?_,?_⟩
    ·refine⟨_,rfl,d,rfl,.inl ⟨kvs,.inl hd3⟩,_,rfl,ea,_,1,_,rfl,rfl,ar.of he3,cS,ln2,fun t nt=>?_⟩
     have s4:=ae.new (o:=.tup [.aT,.aT]) nt
     obtain⟨v,ev,sv⟩:=LT.get (tb3.av fun p xs e=>ae.new (o:=.tup [.aT,.aT]) nt _ _ e) cl3 aa x
     obtain⟨sq,rfl,hsq⟩:=id sv
     refine⟨_,_,eI.k (k:=Sum.inr x) (s4 _ _ hd3),ev,?_⟩
     refine⟨_,rfl,ea,_,0,_,rfl,rfl,ar.of (s4 _ _ he3),cg,_,rfl,ea,_,2,_,rfl,rfl,ar.of (s4 _ _ he3),at2,_,rfl,sq,b,n,side,_,_,rfl,hsq,le x,fun v H5 r5 s5=>?_⟩
     exact⟨v,rfl,r5,s4.trans s5⟩
    rintro σ' H4 ⟨v,rfl,rv,s4⟩
    have h14:=s4 _ _ h1
    have h24:=s4 _ _ h2
    have tv4:=iB.same s4 tv
    refine⟨_,rfl,_,rfl,?_⟩
    cases hp:de T b x n side with
    | none =>
     rw [hp] at rv hnext
     cases (show v=V.aT from rv)
     refine bw ?_
     refine⟨_,_,vs,rfl,h14,h24,?_,KA hvl,s3.trans s4⟩
     rw [hnext]
     simpa using tv4
    | some sx =>
     rw [hp] at rv hnext
     have shv:SH H4 v sx:=by
      obtain⟨a1,b1⟩:=sx
      obtain⟨yp,e,h⟩:=rv
      exact⟨yp,e,h⟩
     obtain⟨yp,rfl,hyp⟩:=id shv
     refine bh ?_
     have he4:=s4 _ _ he3
     have hat:fQ (dm (.cm b x n p r)) (4-(if side=true then 1 else 0))=some (V.int ((if side=true then p else r:Nat):Nat)):=by
      cases side
      ·exact bV (j:=4) rfl
      ·exact bV (j:=3) rfl
     refine⟨_,rfl,.inl ⟨rfl,_,aN.of h14⟩,_,rfl,_,rfl,_,rfl,.inr ⟨_,rfl,_,_,rfl,rfl,ea,_,_,_,rfl,rfl,ar.of he4,hat,?_⟩⟩
     refine⟨_,rfl,_,rfl,ea,_,1,_,rfl,rfl,ar.of he4,cS,_,rfl,d,T,m,x,.ref yp,sx,rfl,lt3.same s4,(by omega),shv,fun d' H5 lt5 s5=>⟨tQ,fun t nt=>?_⟩⟩
     have s6:=ae.new (o:=.tup [.bl side,.int ((if side=true then p else r:Nat):Nat),.ref d']) nt
     have h16:=s6 _ _ (s5 _ _ h14)
     refine⟨fl,vs,_,rfl,rfl,h16,ba (by omega),?_⟩
     refine⟨_,_,vs++[.ref t],rfl,aa,by rw [ao nsl];exact s6 _ _ (s5 _ _ h24),?_,(by rw [Io];show _+1<=_;omega),((s3.trans s4).trans (s5.trans s6)).put hfl⟩
     rw [hnext]
     refine dE (iB.put h16 (iB.same s6 (iB.same s5 tv4))) (.cons ⟨t,d',rfl,?_,(lt5.same s6).put h16⟩ .nil)
     have ht:(upd H5 t (.tup [.bl side,.int ((if side=true then p else r:Nat):Nat),.ref d'])) t=some (.tup [.bl side,.int ((if side=true then p else r:Nat):Nat),.ref d']):=aa
     rw [ao (bJ ht h16 (by intro z;cases z))]
     exact ht
   ·rintro Ic H3 ⟨u1,u2,vs,rfl,h1,h2,tv,hvl,s3⟩
    exact⟨_,rfl,q fl vs H3 h1 tv s3⟩
theorem wR {f:Addr} {fd:FuncData} (F:bR K "_law_piece" "_law_piece" kT f fd) (Z:Bl mg) (O_law_take:Own P w K mg base "_law_take" 1 ["bag", "many"] ib) (O_law_all_names:Own P w K mg base "_law_all_names" 1 ["plan"] AL) (O_law_deed:Own P w K mg base "_law_deed" 3 ["bag", "names"] vA) (O_law_end:Own P w K mg base "_law_end" 3 ["bag", "names", "count"] vC) (O_law_number:Own P w K mg base "_law_number" 2 ["bag"] lU):bu P w K mg base bQ 4 f fd ["bag", "plan"] uE:=by
 refine F.ok (k:=3) eN (fun vs H Q E h=>?_) (fun cdv A outer s H vs Q E hr h=>?_)
 ·obtain⟨b,plv,ps,xs,rfl,_⟩:=h
  rfl
 ·obtain⟨b,plv,ps,xs,rfl,hB,hp,bY,fA,habc,hx,h0,h60,q⟩:=h
  refine⟨_,(af (cD (aF aY (pv 1) (aJ O_law_take hr (aI (pv 0) (bf aZ rfl Z.len bZ (aH (pv 1)))))) (bU rfl (aG (aB (i:=2) eN.nd) (aG (aB (i:=3) eN.nd) bM))))
   (af (aX (i:=4) eN.nd (bf uN rfl Z.sorted hG (aH (bc Fh (aJ O_law_all_names hr (aH (pv 1))) (cP (aH bN))))))
   (af (aX (i:=5) eN.nd (aJ O_law_take hr (aI (pv 0) ah)))
   (af (bo (aM bT (pv 5) ah (aS _))
   (ai (ay (aV (aI (bg bE rfl Z.tuple cA (aH (eY ["k"] ["bag", "names"] [0,4] rfl (er rfl Z.range (aH (aJ O_law_take hr (aI (pv 0) ah)))) rfl (by decide +kernel) (by decide +kernel) (by decide +kernel) ⟨⟨rfl,.inl rfl,rfl⟩,⟨⟨rfl,.inl rfl,rfl⟩,True.intro⟩⟩ (fun _ _ _ _=>(aB (i:=0) (show ((["k"]:List Str)++(["bag", "names"]:List Str)).Nodup by decide +kernel) (hf:=IG rfl))) (fun _ _ _ _=>eB) (fun _ _ _ _=>(aJ O_law_deed hr (aI (pv 1) (pv 2))))))) (aJ O_law_end hr (fb (pv 0) (pv 4) (bf aZ rfl Z.len bZ (aH (pv 1)))))))))
   aQ)
   (af (bo (aM bT (pv 5) ah (aS _))
   (ai (ay (aV (aI (pv 2) (aJ O_law_end hr (fb (pv 0) (pv 4) (bf aZ rfl Z.len bZ (aH (pv 1)))))))))
   aQ)
   (af (bo (aM bT (pv 5) ah (aS _))
   (ai (ay (aV (aI (bg bE rfl Z.tuple cA (aH (eY ["k"] ["bag", "names"] [0,4] rfl (er rfl Z.range (aH (aJ O_law_take hr (aI (pv 0) ah)))) rfl (by decide +kernel) (by decide +kernel) (by decide +kernel) ⟨⟨rfl,.inl rfl,rfl⟩,⟨⟨rfl,.inl rfl,rfl⟩,True.intro⟩⟩ (fun _ _ _ _=>(aB (i:=0) (show ((["k"]:List Str)++(["bag", "names"]:List Str)).Nodup by decide +kernel) (hf:=IG rfl))) (fun _ _ _ _=>eB) (fun _ _ _ _=>(aJ O_law_deed hr (aI (pv 1) (pv 2))))))) (pv 3)))))
   aQ)
   (af (bo (PW.pt (gJ (aM bT (pv 5) ah (aS _)) (gn (aM bT (bf aZ rfl Z.len bZ (aH (pv 3))) ah (aS _)))))
   (ai (ay (aV (aI (pv 2) (aV (bC (aF aY (pv 3) ah) (bC (aF aY (pv 3) ah) (bC (aJ O_law_number hr (aH (pv 0))) (bC (aF aY (pv 3) ah) (bC (aF aY (pv 3) ah) cW))))))))))
   aQ)
   (af (aX (i:=6) eN.nd (aJ O_law_take hr (aI (pv 0) (bc cY (bf aZ rfl Z.len bZ (aH (pv 2))) ah))))
   (af (eF (bo (aM hZ (bf aZ rfl Z.len bZ (aH (pv 2))) ah (aS _))
   (ai (aX (i:=2) eN.nd (bc fq (bc fq (eE oO (pv 2) fj (fk (pv 6))) (aV (aH (aJ O_law_deed hr (aI (pv 0) (pv 4)))))) (eE oO (pv 2) (fk (pv 6)) fj))))
   aQ))
   (ai (ay (aV (aI (pv 2) (pv 3)))))))))))))),?_⟩
  obtain⟨pp,vs,rfl,e1,rvs⟩:=aL.bF (show aL H plv (.tuple (ps.map bO)) from hp)
  have hvl:vs.length=ps.length:=by have:=rvs.len;rw [Ig] at this;exact this
  refine⟨_,rfl,_,rfl,_,rfl,pp,_,rfl,.inr (ar.of e1),b,ps.length,(by rw [hvl];rfl),hB,⟨by omega,fY (by omega) (by omega)⟩,fun r H1 r0 r1 B1 X1=>?_⟩
  obtain⟨j,rfl⟩:∃j:Nat,r=j:=⟨r.toNat,by omega⟩
  have hjl:j<ps.length:=by omega
  have hpj:ps[j]?=some ps[j]:=by simp [hjl]
  generalize ps[j]=pc0 at hpj
  obtain⟨ds,e⟩:=pc0
  obtain⟨p',xs',pc,da,ea,wd,ep,e1',el',hxp,e2,e3,r3,e4⟩:=iK hp hpj
  cases ep
  rw [e1] at e1'
  cases e1'
  have kp1:∀p zs,H p=some (.tup zs)->H1 p=some (.tup zs):=fun p zs e=>X1 p _ e (hB.dW e)
  refine⟨pp,_,_,_,rfl,rfl,ar.of (kp1 _ _ e1),bV hxp,pc,_,rfl,ar.of (kp1 _ _ e2),rfl,_,_,rfl,_,_,rfl,rfl,?_⟩
  have hmp:=IB hpj
  have dok:=bY.fe _ hmp
  have eok:=bY.ends _ hmp
  refine⟨_,rfl,.ref pp,ps,xs,12,rfl,hp.av kp1 (aw ps),bY,(by omega),fun l ss H2 hl hperm hsort hss s2=>⟨o1,fun l2 n2=>?_⟩⟩
  have q2:=ae.new (o:=.lst [.str "abcdefgh"]) n2
  have hsl:ss.length<=xs.length:=by have h1:=hperm.length_eq;have h2:=pT bY;omega
  refine⟨l,l2,_,_,rfl,rfl,q2 _ _ hl,aa,(by rw [Ig];show _+1<=sizeLine;exact IS (ba (by omega))),fun l3 n3=>?_⟩
  have q3:=ae.new (o:=.lst (ss.map V.str++[.str "abcdefgh"])) n3
  have hl3:(upd (upd H2 l2 (.lst [.str "abcdefgh"])) l3 (.lst (ss.map V.str++[.str "abcdefgh"]))) l3=some (.lst ((ss++[("abcdefgh" : Str)]).map V.str)):=by rw [aa,Iw];rfl
  refine⟨l3,ss++[("abcdefgh" : Str)],rfl,aN.of hl3,(by rw [Io];show _+1<64;omega),fun l4 ns' hp4 hs4 n4=>?_⟩
  have q4:=ae.new (o:=.lst (ns'.map V.str)) n4
  have s14:=((s2.trans q2).trans q3).trans q4
  have hl4:(upd (upd (upd H2 l2 (.lst [.str "abcdefgh"])) l3 (.lst (ss.map V.str++[.str "abcdefgh"]))) l4 (.lst (ns'.map V.str))) l4=some (.lst (ns'.map V.str)):=aa
  have B4':=B1.same s14
  have nlb:l4≠b:=(((B1.same s2).same q2).same q3).fm n4
  have sub:∀x∈ns',x∈xs:=fun x hx'=>by
   rcases IC.mp (hp4.mem_iff.mp hx') with z | z
   ·exact km bY x (LS.kj.mp (hperm.mem_iff.mp z))
   ·rw [Il.mp z];exact habc
  have N4:fN (upd (upd (upd H2 l2 (.lst [.str "abcdefgh"])) l3 (.lst (ss.map V.str++[.str "abcdefgh"]))) l4 (.lst (ns'.map V.str))) b l4 ns':=⟨hl4,nlb,(fun z=>by have:=hp4.length_eq;rw [z,Io] at this;simp at this),(by have:=hp4.length_eq;rw [Io] at this;simp at this;omega),fun x hx'=>fA x (sub x hx')⟩
  generalize (upd (upd (upd H2 l2 (.lst [.str "abcdefgh"])) l3 (.lst (ss.map V.str++[.str "abcdefgh"]))) l4 (.lst (ns'.map V.str)))=H5 at s14 B4' N4 ⊢
  refine bx ?_
  clear hl hl3 hl4 q2 q3 q4 s2 n2 n3 n4 hp4 hs4 hperm hsort hss
  refine⟨_,rfl,b,5,rfl,B4',⟨by decide,by decide +kernel⟩,fun way H6 w0 w1 B6 X6=>?_⟩
  refine bx ?_
  have N6:=N4.fix X6
  have kp6:∀p zs,H p=some (.tup zs)->H6 p=some (.tup zs):=fun p zs e=>X6 p _ (s14 _ _ (kp1 _ _ e)) (B4'.dW (s14 _ _ (kp1 _ _ e)))
  have F6:Fix b H H6:=(X1.trans (Fix.of_same s14)).trans X6
  have e16:=kp6 _ _ e1
  have e36:=kp6 _ _ e3
  have r36:=r3.av kp6 (aP ds)
  have e46:=kp6 _ _ e4
  have hds12:ds.length<=12:=dok.1
  clear kp1 kp6 X1 s14 X6 N4 B4' B1 e1 e2 e3 e4 r3
  refine⟨_,rfl,rfl,_,rfl,?_⟩
  refine cU (fun hc=>?_) (fun hc=>?_)
  ·
   refine⟨_,rfl,b,4,rfl,B6,⟨by decide,by decide +kernel⟩,fun m H7 m0 m1 B7 X7=>⟨_,rfl,(by omega),(by omega),fun acc na=>?_⟩⟩
   have hab:acc≠b:=B7.fm na
   have N7:=N6.fix X7
   refine iG (lo:=0) (fun i ys Ie H'=>∃(v:Option V) (ds:List cN),Ie=[v,some (.ref b),some (.ref l4)]/\aR H' ys (ds.map cn)/\ds.length=i/\(∀d∈ds,cL ns' d)/\H' acc=some (.lst ys)/\dM H' b/\Fix b H7 H') ?_ ?_ ?_ ?_
   ·exact⟨none,[],rfl,.nil,rfl,(fun _ h=>nomatch h),aa,B7.new na,Fix.new na⟩
   ·rintro i' ys Ie H4 hi' ⟨v,ds,rfl,rds,hl',_,ha,_⟩
    refine⟨ha,?_⟩
    rw [rds.len,Ig]
    exact ba (by omega)
   ·rintro i' ys Ie H4 hi' ⟨v,ds,rfl,rds,hl',hdk,ha,B4,X4⟩
    refine bx ?_
    refine iI ?_
    refine bh ?_
    refine⟨_,rfl,_,rfl,b,l4,ns',rfl,B4,N7.fix X4,fun dv d H5 rd dk B5 X5=>?_⟩
    have ha5:=X5 acc _ ha hab
    refine⟨ha5,_,ds++[d],rfl,?_,(by rw [Io,hl'];rfl),?_,aa,?_,?_⟩
    ·rw [Iw]
     refine aR.app ((rds.fix B4 X5 (aP ds)).put ha5 (aP ds)) ?_
     exact rd.av (fun p zs e=>by rw [ao (bJ e ha5 (by intro z;cases z))];exact e) (gK d)
    ·intro d' hd
     rcases IC.mp hd with hd | hd
     ·exact hdk d' hd
     ·rw [Il.mp hd];exact dk
    ·obtain⟨x,y,e,z⟩:=B5
     exact⟨x,y,by rw [ao hab.symm];exact e,z⟩
    ·intro d' o hd nd
     rw [ao (aK hd na)]
     exact (X4.trans X5) d' o hd nd
   rintro ys Ie H4 ⟨v,ds2,rfl,rds2,hl',hdk,ha,B4,X4⟩
   refine⟨acc,ys,rfl,.inl ⟨aN.of ha,fun tp tn=>?_⟩⟩
   have s8:=ae.new (o:=.tup ys) tn
   have htp:(upd H4 tp (.tup ys)) tp=some (.tup ys):=aa
   have F64:Fix b H6 H4:=X7.trans X4
   have B8:=B4.same s8
   have N8:=((N7.fix X4).fix (Fix.of_same (b:=b) s8))
   have rds8:=rds2.same s8 (aP ds2)
   have F68:Fix b H6 (upd H4 tp (.tup ys)):=F64.trans (Fix.of_same s8)
   generalize (upd H4 tp (.tup ys))=H8 at s8 htp B8 N8 rds8 F68 ⊢
   have hdl:ds2.length<=12:=by omega
   have hdx:∀d∈ds2,cL xs d:=fun d hd=>(hdk d hd).mono sub
   refine⟨_,rfl,_,rfl,_,rfl,pp,_,rfl,.inr (ar.of (F68 _ _ e16 (B6.dW e16))),b,l4,ns',ps.length,(by rw [hvl];rfl),B8,N8,h0,(by omega),fun ev e' H9 re ek B9 X9=>⟨ln2,fun t nt=>?_⟩⟩
   have q9:=ae.new (o:=.tup [.ref tp,ev]) nt
   refine q (.ref t) (ds2,e') _ (.tup aa (.cons (.tup (q9 _ _ (X9 _ _ htp (B8.dW htp))) ((rds8.fix B8 X9 (aP ds2)).same q9 (aP ds2))) (.cons (re.same q9 (ie e')) .nil))) ⟨hdl,hdx⟩ (ek.mono sub) (B9.same q9) (((F6.trans F68).trans X9).trans (Fix.of_same q9))
  refine⟨_,rfl,rfl,_,rfl,?_⟩
  refine cU (fun hc=>?_) (fun hc=>?_)
  ·
   refine⟨_,rfl,_,rfl,_,rfl,_,rfl,pp,_,rfl,.inr (ar.of e16),b,l4,ns',ps.length,(by rw [hvl];rfl),B6,N6,h0,(by omega),fun ev e' H9 re ek B9 X9=>⟨ln2,fun t nt=>?_⟩⟩
   have q9:=ae.new (o:=.tup [.ref da,ev]) nt
   refine q (.ref t) (ds,e') _ (.tup aa (.cons (.tup (q9 _ _ (X9 _ _ e36 (B6.dW e36))) ((r36.fix B6 X9 (aP ds)).same q9 (aP ds))) (.cons (re.same q9 (ie e')) .nil))) dok (ek.mono sub) (B9.same q9) ((F6.trans X9).trans (Fix.of_same q9))
  refine⟨_,rfl,rfl,_,rfl,?_⟩
  refine cU (fun hc=>?_) (fun hc=>?_)
  ·
   refine⟨_,rfl,b,4,rfl,B6,⟨by decide,by decide +kernel⟩,fun m H7 m0 m1 B7 X7=>⟨_,rfl,(by omega),(by omega),fun acc na=>?_⟩⟩
   have hab:acc≠b:=B7.fm na
   have N7:=N6.fix X7
   refine iG (lo:=0) (fun i ys Ie H'=>∃(v:Option V) (ds:List cN),Ie=[v,some (.ref b),some (.ref l4)]/\aR H' ys (ds.map cn)/\ds.length=i/\(∀d∈ds,cL ns' d)/\H' acc=some (.lst ys)/\dM H' b/\Fix b H7 H') ?_ ?_ ?_ ?_
   ·exact⟨none,[],rfl,.nil,rfl,(fun _ h=>nomatch h),aa,B7.new na,Fix.new na⟩
   ·rintro i' ys Ie H4 hi' ⟨v,ds,rfl,rds,hl',_,ha,_⟩
    refine⟨ha,?_⟩
    rw [rds.len,Ig]
    exact ba (by omega)
   ·rintro i' ys Ie H4 hi' ⟨v,ds,rfl,rds,hl',hdk,ha,B4,X4⟩
    refine bx ?_
    refine iI ?_
    refine bh ?_
    refine⟨_,rfl,_,rfl,b,l4,ns',rfl,B4,N7.fix X4,fun dv d H5 rd dk B5 X5=>?_⟩
    have ha5:=X5 acc _ ha hab
    refine⟨ha5,_,ds++[d],rfl,?_,(by rw [Io,hl'];rfl),?_,aa,?_,?_⟩
    ·rw [Iw]
     refine aR.app ((rds.fix B4 X5 (aP ds)).put ha5 (aP ds)) ?_
     exact rd.av (fun p zs e=>by rw [ao (bJ e ha5 (by intro z;cases z))];exact e) (gK d)
    ·intro d' hd
     rcases IC.mp hd with hd | hd
     ·exact hdk d' hd
     ·rw [Il.mp hd];exact dk
    ·obtain⟨x,y,e,z⟩:=B5
     exact⟨x,y,by rw [ao hab.symm];exact e,z⟩
    ·intro d' o hd nd
     rw [ao (aK hd na)]
     exact (X4.trans X5) d' o hd nd
   rintro ys Ie H4 ⟨v,ds2,rfl,rds2,hl',hdk,ha,B4,X4⟩
   refine⟨acc,ys,rfl,.inl ⟨aN.of ha,fun tp tn=>?_⟩⟩
   have s8:=ae.new (o:=.tup ys) tn
   have htp:(upd H4 tp (.tup ys)) tp=some (.tup ys):=aa
   have F64:Fix b H6 H4:=X7.trans X4
   have B8:=B4.same s8
   have N8:=((N7.fix X4).fix (Fix.of_same (b:=b) s8))
   have rds8:=rds2.same s8 (aP ds2)
   have F68:Fix b H6 (upd H4 tp (.tup ys)):=F64.trans (Fix.of_same s8)
   generalize (upd H4 tp (.tup ys))=H8 at s8 htp B8 N8 rds8 F68 ⊢
   have hdl:ds2.length<=12:=by omega
   have hdx:∀d∈ds2,cL xs d:=fun d hd=>(hdk d hd).mono sub
   refine⟨_,rfl,ln2,fun t nt=>?_⟩
   have q9:=ae.new (o:=.tup [.ref tp,.ref ea]) nt
   have e48:=F68 _ _ e46 (B6.dW e46)
   refine q (.ref t) (ds2,e) _ (.tup aa (.cons (.tup (q9 _ _ htp) (rds8.same q9 (aP ds2))) (.cons (lC (q9 _ _ e48)) .nil))) ⟨hdl,hdx⟩ eok (B8.same q9) ((F6.trans F68).trans (Fix.of_same q9))
  refine⟨_,rfl,rfl,_,rfl,?_⟩
  refine FO ?_ (fun rest hc=>?_)
  rotate_left
  ·refine⟨_,rfl,ea,_,rfl,.inr (ar.of e46),rfl,_,rfl,?_⟩
   refine cU (fun hd=>?_) (fun hd=>rest)
   cases e with
   | stop=>exact absurd (of_decide_eq_true hd) (by show ¬V.int 1=V.int 5;decide)
   | go p=>exact absurd (of_decide_eq_true hd) (by show ¬V.int 2=V.int 5;decide)
   | cm bb x n r1 r2 =>
    refine⟨_,rfl,_,rfl,ea,_,0,_,rfl,rfl,ar.of e46,cg,_,rfl,ea,_,1,_,rfl,rfl,ar.of e46,cS,_,rfl,b,rfl,B6,fun n' H7 nk B7 X7=>?_⟩
    have e47:=X7 _ _ e46 (B6.dW e46)
    refine⟨_,rfl,ea,_,3,_,rfl,rfl,ar.of e47,bV (j:=3) rfl,_,rfl,ea,_,4,_,rfl,rfl,ar.of e47,bV (j:=4) rfl,(by show 5<=sizeLine;decide),fun t1 n1=>⟨ln2,fun t nt=>?_⟩⟩
    have q8:=ae.new (o:=.tup (dm (.cm bb x n' r1 r2))) n1
    have q9:=ae.new (o:=.tup [.ref da,.ref t1]) nt
    have q89:=q8.trans q9
    refine q (.ref t) (ds,.cm bb x n' r1 r2) _ (.tup aa (.cons (.tup (q89 _ _ (X7 _ _ e36 (B6.dW e36))) ((r36.fix B6 X7 (aP ds)).same q89 (aP ds))) (.cons (lC (q9 _ _ aa)) .nil))) dok ⟨eok.1,nk,eok.2.2⟩ (B7.same q89) ((F6.trans X7).trans (Fix.of_same q89))
  have hwl:wd.length=ds.length:=by have:=r36.len;rw [Ig] at this;exact this
  refine⟨_,rfl,_,rfl,da,_,rfl,.inr (ar.of e36),_,_,rfl,rfl,b,ds.length+1,(by rw [hwl];rfl),B6,⟨by omega,fY (by omega) (by omega)⟩,fun at_ H7 a0 a1 B7 X7=>?_⟩
  refine bx ?_
  obtain⟨k,rfl⟩:∃k:Nat,at_=k:=⟨at_.toNat,by omega⟩
  have e37:=X7 _ _ e36 (B6.dW e36)
  have r37:=r36.fix B6 X7 (aP ds)
  have e47:=X7 _ _ e46 (B6.dW e46)
  have N7:=N6.fix X7
  have F7:=F6.trans X7
  refine⟨fun σ' H'=>∃(da':Addr) (wd':List V) (ds':List cN),σ' = [some (.ref b),some (.ref pp),some (.ref da'),some (.ref ea),some (.ref l4),some (.int way),some (.int (k:Nat))]/\H' da' = some (.tup wd')/\aR H' wd' (ds'.map cn)/\(ds'.length<=12/\∀d∈ds',cL xs d)/\H' ea=some (.tup (dm e))/\dM H' b/\Fix b H H',?_,?_⟩
  ·refine⟨_,rfl,da,_,rfl,.inr (ar.of e37),_,_,rfl,rfl,_,rfl,?_⟩
   refine cU (fun hd=>?_) (fun hd=>?_)
   ·have hd12:ds.length<12:=by
     have hd:decide (((wd.length:Nat):Int)<12)=true:=hd
     have:=of_decide_eq_true hd
     omega
    have hk':k<=wd.length:=by omega
    refine⟨_,rfl,_,rfl,(k:Int),rfl,da,wd,rfl,e37,fun p1 H8 hp1 s8=>?_⟩
    have B8:=B7.same s8
    have N8:=N7.fix (Fix.of_same (b:=b) s8)
    refine⟨_,rfl,_,rfl,b,l4,ns',rfl,B8,N8,fun dv d H9 rd dk B9 X9=>⟨o1,fun t1 n1=>?_⟩⟩
    have q1:=ae.new (o:=.tup [dv]) n1
    have F79:Fix b H7 H9:=(Fix.of_same s8).trans X9
    have r39:=r37.fix B7 F79 (aP ds)
    obtain⟨c1,c2⟩:=EC r39 hk'
    have hl1:(dC wd none (some (k:Int))).length<=12:=by rw [rL hk',IH];omega
    have hl2:(dC wd (some (k:Int)) none).length<=12:=by rw [lG hk',JI];omega
    refine⟨p1,t1,_,_,rfl,rfl,q1 _ _ (X9 _ _ hp1 (B8.dW hp1)),aa,Ir (show _<=13 by show _+1<=13;omega) (by decide),fun t2 H10 ht2 s10=>?_⟩
    have q10:=q1.trans s10
    have e310:=q10 _ _ (F79 _ _ e37 (B7.dW e37))
    refine⟨_,rfl,_,rfl,(k:Int),rfl,da,wd,rfl,e310,fun p3 H11 hp3 s11=>?_⟩
    refine⟨t2,p3,_,_,rfl,rfl,s11 _ _ ht2,hp3,Ir (show _<=25 by rw [Io];show _+1+_<=25;omega) (by decide),fun t4 H12 ht4 s12=>?_⟩
    have qf:=(q10.trans s11).trans s12
    refine⟨t4,_,ds.take k++[d]++ds.drop k,rfl,ht4,?_,⟨?_,fun d' hd'=>?_⟩,qf _ _ (F79 _ _ e47 (B7.dW e47)),B9.same qf,(F7.trans F79).trans (Fix.of_same qf)⟩
    ·rw [Iw,Iw]
     exact aR.FU (c2.same qf (aP _)) (aR.app (c1.same qf (aP _)) (rd.same qf (gK d)))
    ·rw [Io,Io,IH,JI]
     show _+1+_<=12
     omega
    ·rcases IC.mp hd' with hd' | hd'
     ·rcases IC.mp hd' with hd' | hd'
      ·exact dok.2 d' (JW hd')
      ·rw [Il.mp hd'];exact dk.mono sub
     ·exact dok.2 d' (List.mem_of_mem_drop hd')
   ·exact⟨da,wd,ds,rfl,e37,r37,dok,e47,B7,F7⟩
  rintro σ' H8 ⟨da',wd',ds',rfl,g1,g2,g3,g4,B8,F8⟩
  refine⟨_,rfl,_,rfl,ln2,fun t nt=>?_⟩
  have q9:=ae.new (o:=.tup [.ref da',.ref ea]) nt
  exact q (.ref t) (ds',e) _ (.tup aa (.cons (.tup (q9 _ _ g1) (g2.same q9 (aP ds'))) (.cons (lC (q9 _ _ g4)) .nil))) g3 eok (B8.same q9) (F8.trans (Fix.of_same q9))
theorem uX {f:Addr} {fd:FuncData} (F:bR K "_law_mended" "_law_mended" kd f fd) (Z:Bl mg) (O_law_leads:Own P w K mg base "_law_leads" 3 ["facts", "end"] uy) (O_law_behind:Own P w K mg base "_law_behind" 2 ["facts", "deeds"] yj) (O_law_table_of:Own P w K mg base "_law_table_of" 1 ["facts"] rG) (O_law_covers:Own P w K mg base "_law_covers" 1 ["one", "other"] ux):bu P w K mg base bQ 4 f fd ["piece", "copies", "facts"] uD:=by
  refine F.ok (k:=3) dh (fun vs H Q E h=>?_) (fun cdv A outer s H vs Q E hr h=>?_)
  . obtain⟨fv,pc,da,ea,pa,wd,us,ds,e,paper,T,xs,rfl,_⟩:=h
    rfl
  . obtain⟨fv,pc,da,ea,pa,wd,us,ds,e,paper,T,xs,rfl,hf,hpc,hda,rds,hea,hpa,hpp,tok,dok,hx,pA,hn4,q⟩:=h
    refine⟨_,(af (cD (pv 0) (bU rfl (aG (aB (i:=3) dh.nd) (aG (aB (i:=4) dh.nd) bM))))
      (af (aX (i:=5) dh.nd (cP cW))
      (af (dA PassesOwn.never rfl (iC (aJ O_law_leads hr (aI (aJ O_law_behind hr (aI (aJ O_law_table_of hr (aH (pv 2))) (pv 3))) (pv 4)))) (bU rfl (aG (aB (i:=6) dh.nd) (aG (aB (i:=7) dh.nd) (aG (aB (i:=8) dh.nd) bM))))
      (af (eZ (i:=9) ["k"] ["there", "copies"] [7,1] rfl dh.nd rfl rfl rfl (er rfl Z.range (aH (bf aZ rfl Z.len bZ (aH (pv 1))))) rfl (by decide +kernel) (by decide +kernel) (by decide +kernel) ⟨⟨rfl,.inl rfl,rfl⟩,⟨⟨rfl,.inl rfl,rfl⟩,True.intro⟩⟩ (fun _ _ _ _=>(aB (i:=0) (show ((["k"]:List Str)++(["there", "copies"]:List Str)).Nodup by decide +kernel) (hf:=IG rfl))) (fun _ _ _ _=>(iF (aM bT (aF (gd (K:=K) rfl) (aF (gd (K:=K) rfl) (pv 2) (pv 0)) ah) (pv 1) (aS _)))) (fun _ _ _ _=>(pv 0)))
      (af (eZ (i:=9) ["k"] ["more", "copies"] [8,1] rfl dh.nd rfl rfl rfl (iC (pv 9)) rfl (by decide +kernel) (by decide +kernel) (by decide +kernel) ⟨⟨rfl,.inl rfl,rfl⟩,⟨⟨rfl,.inl rfl,rfl⟩,True.intro⟩⟩ (fun _ _ _ _=>(aB (i:=0) (show ((["k"]:List Str)++(["more", "copies"]:List Str)).Nodup by decide +kernel) (hf:=IG rfl))) (fun _ _ _ _=>(iF (i6 (aJ O_law_covers hr (aI (aJ O_law_table_of hr (aH (aF (gd (K:=K) rfl) (aF (gd (K:=K) rfl) (pv 2) (pv 0)) ah))) (pv 1)))))) (fun _ _ _ _=>(pv 0)))
      (af (bo (aM (wg hr.units) (pv 9) (cP cW) (aS _))
      (ai (ay bW))
      aQ)
      (ai (dZ (ia PySem.F.plainAttrs_list PySem.F.slot_list_append PySem.F.type_list_append fB (pv 5) (aH (aF cB (pv 9) ah)))))))))
      (af (bo (aM bT (bf aZ rfl Z.len bZ (aH (pv 5))) ah (aS _))
      (ai (ay (aV (aI (pv 3) (aV (aI bN (aF cB (pv 5) ah)))))))
      aQ)
      (ai (ay (aV (aI (pv 3) (bc fq (bc fq (eE gZ (pv 4) fj (fk (bc jH ah (bg fX rfl Z.int jQ (aH (fi bT (bf aZ rfl Z.len bZ (aH (pv 5))) ah (aS _))))))) (bc Et (aV (aH bN)) (bg fX rfl Z.int jQ (aH (fi (wg hr.units) (pv 5) (cP cW) (aS _)))))) (bg bE rfl Z.tuple cA (aH (pv 5)))))))))))),?_⟩
    have hul:=cG hpp
    refine⟨_,rfl,pc,_,rfl,ar.of hpc,rfl,_,_,rfl,_,_,rfl,rfl,?_⟩
    refine⟨(by show 0<=sizeLine;decide),fun nl nnl=>?_⟩
    refine bx ?_
    have s1:=ae.new (o:=.lst []) nnl
    have hnl1:(upd H nl (.lst [])) nl=some (.lst []):=aa
    generalize (upd H nl (.lst []))=H1 at s1 hnl1 ⊢
    refine⟨_,rfl,fv,T,xs.length,rfl,FV.same hf s1,tok.bS,(by omega),fun d1 H2 nd2 lt2 s2=>?_⟩
    have s02:=s1.trans s2
    refine⟨_,rfl,d1,da,T,xs.length,wd,ds,xs,rfl,lt2,s02 _ _ hda,rds.same s02 (aP ds),(by omega),rfl,tok,dok,fun d2 H3 lt3 s3=>?_⟩
    have tokb:=tok.p8 dok
    have s03:=s02.trans s3
    refine⟨_,rfl,d2,ea,bp T ds,e,xs.length,rfl,lt3,(by omega),tokb.le,s03 _ _ hea,fun fl lvs H4 hfl4 hts4 s4=>?_⟩
    have s04:=s03.trans s4
    have hnl4:=s4 _ _ (s3 _ _ (s2 _ _ hnl1))
    have hlvl:lvs.length=(oH (bp T ds) e).length:=cG hts4
    have hl2:=AU (T:=bp T ds) (e:=e)
    refine⟨fl,rfl,⟨_,aN.of hfl4⟩,?_⟩
    refine vp (K:=K) (a:=fl) (xs:=lvs) (fun i Ic H'=>∃(u1 u2 u3 u4:Option V) (ns:List Nat),Ic=[some (.ref pc),some (.ref pa),some fv,some (.ref da),some (.ref ea),some (.ref nl),u1,u2,u3,u4]/\H' nl=some (.lst (vN ns))/\Paired (FM paper) ((cx (bp T ds) e).take i) (ns.map some)/\H' fl=some (.lst lvs)/\iB (xs.length+1) H' lvs (oH (bp T ds) e)/\ae H H') ?_ ?_ ?_ ?_
    . exact⟨_,_,_,_,[],rfl,hnl4,.nil,hfl4,hts4,s04⟩
    . rintro i Ic H5 hi ⟨u1,u2,u3,u4,ns,rfl,g1,g2,g3,g4,g5⟩
      exact aN.of g3
    . rintro i x Ic H5 hx5 ⟨u1,u2,u3,u4,ns,rfl,g1,g2,g3,g4,g5⟩
      obtain⟨l,hl,lq,ld_,rfl,hlq,hld⟩:=L2.fC g4 hx5
      refine⟨lq,_,rfl,ar.of hlq,rfl,_,_,rfl,_,_,rfl,_,_,rfl,rfl,?_⟩
      have nfl:fl≠nl:=fun z=>by
        rw [z,hnl4] at hfl4
        cases hfl4
        simp at hx5
      have hpa5:=g5 _ _ hpa
      have hpp5:=hpp.same g5
      refine⟨_,rfl,pa,_,rfl,.inr (ar.of hpa5),_,rfl,(by omega),(by omega),fun acc na=>?_⟩
      refine iG (lo:=0) (fun j ys Ie H'=>∃(c1:Option V),Ie=[c1,some (.int ((l.2.1:Nat):Int)),some (.ref pa)]/\H' acc=some (.lst ys)/\ys=vN (dP paper l.2.1 j)/\ae H5 H') ?_ ?_ ?_ ?_
      . exact⟨none,rfl,aa,rfl,ae.new na⟩
      . rintro j ys Ie H6 hj ⟨c1,rfl,ha,rfl,s6⟩
        refine⟨ha,ba ?_⟩
        have:=wF (paper:=paper) (w:=l.2.1) (i:=j)
        rw [Ig]
        omega
      . rintro j ys Ie H6 hj ⟨c1,rfl,ha,rfl,s6⟩
        have hjl:j<paper.length:=by omega
        have hc:paper[j]?=some paper[j]:=by simp [hjl]
        generalize paper[j]=c at hc
        obtain⟨ov,hov,oq,ou,rfl,hoq,hou⟩:=fL hpp5 hc
        rw [KC]
        refine bx ?_
        refine⟨_,rfl,_,rfl,pa,_,_,_,rfl,rfl,ar.of (s6 _ _ hpa5),bV hov,oq,_,0,_,rfl,rfl,ar.of (s6 _ _ hoq),cg,_,rfl,rfl,_,rfl,?_⟩
        by_cases hck:c.1=((l.2.1:Nat):Int)
        . refine cC (decide_eq_true (by rw [hck])) ?_
          refine⟨_,rfl,ha,_,rfl,aa,?_,s6.put na⟩
          rw [CJ hc hck]
          unfold vN
          rw [Iw]
          rfl
        . refine bB (decide_eq_false fun z=>hck (by injection z)) ?_
          exact⟨_,rfl,ha,by rw [Ez hc hck],s6⟩
      rintro ys Ie H6 ⟨c1,rfl,ha,rfl,s6⟩
      rw [show ((us.length:Int)).toNat=paper.length by omega] at ha
      refine bx ?_
      have s56:=g5.trans s6
      refine⟨_,rfl,acc,rfl,⟨_,aN.of ha⟩,fun acc2 na2=>?_⟩
      have hsl:(dP paper l.2.1 paper.length).length<=paper.length:=wF
      refine lg (K:=K) (a:=acc) (xs:=vN (dP paper l.2.1 paper.length)) (fun j ys Ie H'=>∃(c1:Option V),Ie=[c1,some (.ref ld_),some (.ref pa)]/\H' acc2=some (.lst ys)/\ys=vN (fP paper l.2 ((dP paper l.2.1 paper.length).take j))/\ae H6 H') ?_ ?_ ?_ ?_
      . exact⟨none,rfl,aa,rfl,ae.new na2⟩
      . rintro j ys Ie H7 hj ⟨c1,rfl,ha2,rfl,s7⟩
        refine⟨aN.of (s7 _ _ ha),ha2,ba ?_⟩
        have h1:=CL (paper:=paper) (ld:=l.2) (l:=(dP paper l.2.1 paper.length).take j)
        rw [IH] at h1
        rw [Ig]
        omega
      . rintro j y ys Ie H7 hy ⟨c1,rfl,ha2,rfl,s7⟩
        obtain⟨k,hk,rfl⟩:∃k,(dP paper l.2.1 paper.length)[j]?=some k/\y=V.int (k:Nat):=by
          unfold vN at hy
          rw [Iu] at hy
          cases z:(dP paper l.2.1 paper.length)[j]? with
          | none=>rw [z] at hy;cases hy
          | some k=>rw [z] at hy;exact⟨k,rfl,(IA.inj hy).symm⟩
        obtain⟨c,hc,hcw⟩:=(EA (IB hk)).2
        obtain⟨ov,hov,oq,ou,rfl,hoq,hou⟩:=fL hpp5 hc
        have s57:=s6.trans s7
        refine bx ?_
        refine⟨_,rfl,_,rfl,pa,_,_,_,rfl,rfl,ar.of (s57 _ _ hpa5),bV hov,oq,_,1,_,rfl,rfl,ar.of (s57 _ _ hoq),cS,ou,c.2,xs.length,rfl,FV.same hou s57,(pA c (IB hc)).bS,(by omega),fun d8 H8 nd8 lt8 s8=>?_⟩
        refine⟨_,rfl,d8,ld_,c.2,l.2.2,xs.length+1,rfl,lt8.up (Jl _),(hld.same s57).same s8,fun b H9 hb s9=>⟨_,rfl,?_⟩⟩
        have s89:=s8.trans s9
        cases b with
        | true =>
          refine bh ?_
          refine⟨_,rfl,s89 _ _ ha2,_,rfl,aa,?_,(s7.trans s89).put na2⟩
          rw [CK hk ⟨c,hc,hcw,hb.mp rfl⟩]
          unfold vN
          rw [Iw]
          rfl
        | false =>
          refine bw ?_
          refine⟨_,rfl,s89 _ _ ha2,?_,s7.trans s89⟩
          rw [EB hk]
          rintro⟨c',h1,h2⟩
          rw [hc] at h1
          cases h1
          exact absurd (hb.mpr h2.2) (by decide)
      rintro ys Ie H7 ⟨c1,rfl,ha2,rfl,s7⟩
      have hvl:(vN (dP paper l.2.1 paper.length)).length=(dP paper l.2.1 paper.length).length:=Ig ..
      rw [hvl,II] at ha2
      refine bx ?_
      have s57:=s6.trans s7
      have s07:=g5.trans s57
      have hldF:(cx (bp T ds) e)[i]?=some l.2:=by rw [<-yk,Iu,hl];rfl
      refine⟨_,rfl,(by show 0<=sizeLine;decide),fun e0 ne0=>?_⟩
      have s8:=ae.new (o:=.lst []) ne0
      refine⟨acc2,e0,_,rfl,rfl,aN.of (s8 _ _ ha2),aN.of aa,_,rfl,?_⟩
      cases hsel:fP paper l.2 (dP paper l.2.1 paper.length) with
      | nil =>
        refine cC rfl ?_
        exact q .aT none _ (gS.none_ hldF (wG hsel)) (fun _=>rfl) (fun e' z=>nomatch z) (s07.trans s8)
      | cons a r =>
        refine bB rfl ?_
        rw [hsel] at ha2
        have g18:=s8 _ _ (s57 _ _ g1)
        refine⟨_,rfl,.inl ⟨rfl,_,aN.of g18⟩,_,rfl,acc2,_,0,_,rfl,rfl,aN.of (s8 _ _ ha2),cg,nl,_,_,rfl,rfl,g18,ba ?_,?_⟩
        . have h1:=cG g2
          rw [IH,Ig] at h1
          have h3:=(iO (e:=e) tokb).2
          rw [Ig]
          omega
        . refine⟨_,_,_,_,ns++[a],rfl,?_,?_,?_,?_,(s07.trans s8).put nnl⟩
          . rw [aa]
            unfold vN
            rw [Iw]
            rfl
          . rw [take1 hldF,Iw]
            exact L2.dE g2 (.cons (uB hsel) .nil)
          . rw [ao nfl]
            exact s8 _ _ (s57 _ _ g3)
          . exact iB.put g18 (iB.same s8 (iB.same s57 g4))
    rintro Ic H5 ⟨u1,u2,u3,u4,ns,rfl,g1,g2,g3,g4,g5⟩
    have hLF:lvs.length=(cx (bp T ds) e).length:=by rw [hlvl,<-yk,Ig]
    rw [hLF,II] at g2
    have hnl:=cG g2
    rw [Ig] at hnl
    have hea5:=g5 _ _ hea
    have hvn:(vN ns).length=ns.length:=Ig ..
    refine⟨_,rfl,nl,_,rfl,.inl (aN.of g1),rfl,_,rfl,?_⟩
    by_cases h1:ns.length=1
    . obtain⟨a,rfl⟩:=List.length_eq_one_iff.mp h1
      refine cC rfl ?_
      refine⟨_,rfl,_,rfl,nl,_,0,_,rfl,rfl,aN.of g1,cg,ln2,fun t1 n1=>⟨ln2,fun t2 n2=>?_⟩⟩
      have q1:=ae.new (o:=.tup [.str "go",.int (a:Nat)]) n1
      have q2:=ae.new (o:=.tup [.ref da,.ref t1]) n2
      exact q (.ref t2) (some (.go a)) _ (gS.lT g2) (fun z=>nomatch z) (fun e' z=>by cases z;exact⟨t2,t1,rfl,aa,q2 _ _ aa⟩) (g5.trans (q1.trans q2))
    refine bB (decide_eq_false fun z=>h1 (by injection z with z;omega)) ?_
    have hll:=iO (e:=e) tokb
    rw [hnl] at hll
    have hw:=hll.1.resolve_left h1
    cases e with
    | go r=>exact absurd hw h1
    | stop =>
      obtain rfl:ns=[]:=Ku.mp hw
      refine⟨_,rfl,_,rfl,_,rfl,nl,_,rfl,.inl (aN.of g1),rfl,.inr ⟨_,rfl,_,_,rfl,rfl,.inr ⟨by show (-(2 ^ 64):Int)<0;decide,by show (0:Int)<2 ^ 64;decide⟩,(0:Int),rfl,ea,_,rfl,ar.of hea5,fun hw'=>absurd hw'.2 (by show ¬HT.cf 1 1 (some 0)=1;decide),fun _ p1 np1=>?_⟩⟩
      have q1:=ae.new (o:=.tup (dC (dm L2.End.stop) none (some 0))) np1
      have hp1:(upd H5 p1 (.tup (dC (dm L2.End.stop) none (some 0)))) p1=some (.tup []):=aa
      try change (_:Hp->Prop) (upd H5 p1 (.tup (dC (dm L2.End.stop) none (some 0))))
      generalize (upd H5 p1 (.tup (dC (dm L2.End.stop) none (some 0))))=H6 at q1 hp1 ⊢
      have g16:=q1 _ _ g1
      refine⟨o1,fun t1 n1=>?_⟩
      have q2:=ae.new (o:=.tup [.str "stop"]) n1
      have ht1:(upd H6 t1 (.tup [.str "stop"])) t1=some (.tup [.str "stop"]):=aa
      have hp12:=q2 _ _ hp1
      have g17:=q2 _ _ g16
      have q12:=q1.trans q2
      generalize (upd H6 t1 (.tup [.str "stop"]))=H7 at q2 ht1 hp12 g17 q12 ⊢
      refine⟨_,rfl,(by show 0<=sizeLine;decide),fun e0 ne0=>?_⟩
      have q3:=ae.new (o:=.lst []) ne0
      have hp13:=q3 _ _ hp12
      have g18:=q3 _ _ g17
      have ht13:=q3 _ _ ht1
      have q13:=q12.trans q3
      refine⟨nl,e0,_,rfl,rfl,aN.of g18,aN.of aa,.inr ⟨_,rfl,t1,1,_,rfl,rfl,ht13,(fun z=>nomatch z),(by decide),(by decide),(by show 1<=3;decide),fun p2 H8 hp2 s8=>?_⟩⟩
      have q18:=q13.trans s8
      refine⟨p1,p2,_,_,rfl,rfl,s8 _ _ hp13,hp2,(by show 1<=sizeLine;decide),fun t3 H9 ht3 s9=>?_⟩
      have q19:=q18.trans s9
      refine⟨_,rfl,nl,_,rfl,.inl ⟨aN.of (s9 _ _ (s8 _ _ g18)),fun t4 n4=>?_⟩⟩
      have q4:=ae.new (o:=.tup (vN [])) n4
      refine⟨t3,t4,_,_,rfl,rfl,q4 _ _ ht3,aa,(by show 1<=sizeLine;decide),fun t5 H10 ht5 s10=>⟨ln2,fun t6 n6=>?_⟩⟩
      have q6:=ae.new (o:=.tup [.ref da,.ref t5]) n6
      exact q (.ref t6) (some L2.End.stop) _ (gS.lT g2) (fun z=>nomatch z) (fun e' z=>by cases z;exact⟨t6,t5,rfl,aa,q6 _ _ ht5⟩) (g5.trans (q19.trans (q4.trans (s10.trans q6))))
    | cm b x n r1 r2 =>
      obtain⟨a,c,rfl⟩:∃a c,ns=[a,c]:=by
        match ns,hw with
        | [a,c],_=>exact⟨a,c,rfl⟩
      refine⟨_,rfl,_,rfl,_,rfl,nl,_,rfl,.inl (aN.of g1),rfl,.inr ⟨_,rfl,_,_,rfl,rfl,.inr ⟨by show (-(2 ^ 64):Int)<1;decide,by show (1:Int)<2 ^ 64;decide⟩,(3:Int),rfl,ea,_,rfl,ar.of hea5,fun hw'=>absurd hw'.2 (by show ¬HT.cf 5 5 (some 3)=5;decide),fun _ p1 np1=>?_⟩⟩
      have q1:=ae.new (o:=.tup (dC (dm (L2.End.cm b x n r1 r2)) none (some 3))) np1
      have hp1:(upd H5 p1 (.tup (dC (dm (L2.End.cm b x n r1 r2)) none (some 3)))) p1=some (.tup [.str (wT b),.str x,.int n]):=aa
      try change (_:Hp->Prop) (upd H5 p1 (.tup (dC (dm (L2.End.cm b x n r1 r2)) none (some 3))))
      generalize (upd H5 p1 (.tup (dC (dm (L2.End.cm b x n r1 r2)) none (some 3))))=H6 at q1 hp1 ⊢
      have g16:=q1 _ _ g1
      refine⟨o1,fun t1 n1=>?_⟩
      have q2:=ae.new (o:=.tup [.str "stop"]) n1
      have ht1:(upd H6 t1 (.tup [.str "stop"])) t1=some (.tup [.str "stop"]):=aa
      have hp12:=q2 _ _ hp1
      have g17:=q2 _ _ g16
      have q12:=q1.trans q2
      generalize (upd H6 t1 (.tup [.str "stop"]))=H7 at q2 ht1 hp12 g17 q12 ⊢
      refine⟨_,rfl,(by show 0<=sizeLine;decide),fun e0 ne0=>?_⟩
      have q3:=ae.new (o:=.lst []) ne0
      have hp13:=q3 _ _ hp12
      have g18:=q3 _ _ g17
      have ht13:=q3 _ _ ht1
      have q13:=q12.trans q3
      refine⟨nl,e0,_,rfl,rfl,aN.of g18,aN.of aa,.inr ⟨_,rfl,t1,0,_,rfl,rfl,ht13,(fun z=>nomatch z),(by decide),(by decide),(by show 1<=3;decide),fun p2 H8 hp2 s8=>?_⟩⟩
      have q18:=q13.trans s8
      refine⟨p1,p2,_,_,rfl,rfl,s8 _ _ hp13,hp2,(by show 3<=sizeLine;decide),fun t3 H9 ht3 s9=>?_⟩
      have q19:=q18.trans s9
      refine⟨_,rfl,nl,_,rfl,.inl ⟨aN.of (s9 _ _ (s8 _ _ g18)),fun t4 n4=>?_⟩⟩
      have q4:=ae.new (o:=.tup (vN [a,c])) n4
      refine⟨t3,t4,_,_,rfl,rfl,q4 _ _ ht3,aa,(by show 5<=sizeLine;decide),fun t5 H10 ht5 s10=>⟨ln2,fun t6 n6=>?_⟩⟩
      have q6:=ae.new (o:=.tup [.ref da,.ref t5]) n6
      exact q (.ref t6) (some (L2.End.cm b x n a c)) _ (gS.lT g2) (fun z=>nomatch z) (fun e' z=>by cases z;exact⟨t6,t5,rfl,aa,q6 _ _ ht5⟩) (g5.trans (q19.trans (q4.trans (s10.trans q6))))
theorem qr {f:Addr} {fd:FuncData} (F:bR K "_law_exchanged" "_law_exchanged" iz f fd) (Z:Bl mg) {C:Addr} (T:nF K C) (O_law_mended:Own P w K mg base "_law_mended" 4 ["piece", "copies", "facts"] uD) (O_led_past:Own P w K mg base "led_past" 7 ["plan", "most"] (ik P w C)):bu P w K mg base bQ 12 f fd ["kept", "place", "piece"] yu:=by
  refine F.ok (k:=11) bP (fun vs H Q E h=>?_) (fun cdv A outer s H vs Q E hr h=>?_)
  . obtain⟨kt,plv,ov,cv,qv,most,k,n,ps,qs,p,cs,ds,xs,rfl,_⟩:=h
    rfl
  . obtain⟨kt,plv,ov,cv,qv,most,k,n,ps,qs,p,cs,ds,xs,rfl,hkt,hp,ho,hc,cc,hq,hk',ok,tok,hcq,hq4,q⟩:=h
    refine⟨_,(af (cD (pv 0) (bU rfl (aG (aB (i:=3) bP.nd) (aG (aB (i:=4) bP.nd) (aG (aB (i:=5) bP.nd) (aG (aB (i:=6) bP.nd) (aG (aB (i:=7) bP.nd) bM)))))))
      (af (aX (i:=3) bP.nd (bc fq (bc fq (eE gZ (pv 3) fj (fk (pv 1))) (aV (aH (pv 2)))) (eE gZ (pv 3) (fk (bc cY (pv 1) ah)) fj)))
      (af (eZ (i:=8) ["k"] ["place", "copies"] [1,6] rfl bP.nd rfl rfl rfl (er rfl Z.range (aH (bf aZ rfl Z.len bZ (aH (pv 6))))) rfl (by decide +kernel) (by decide +kernel) (by decide +kernel) ⟨⟨rfl,.inl rfl,rfl⟩,⟨⟨rfl,.inl rfl,rfl⟩,True.intro⟩⟩ (fun _ _ _ _=>(aB (i:=0) (show ((["k"]:List Str)++(["place", "copies"]:List Str)).Nodup by decide +kernel) (hf:=IG rfl))) (fun _ _ _ _=>(iF (aM bT (aF (gd (K:=K) rfl) (aF (gd (K:=K) rfl) (pv 2) (pv 0)) ah) (pv 1) (aS _)))) (fun _ _ _ _=>(pv 0)))
      (af (eZ (i:=9) ["k"] ["piece", "copies"] [2,6] rfl bP.nd rfl rfl rfl (iC (pv 8)) rfl (by decide +kernel) (by decide +kernel) (by decide +kernel) ⟨⟨rfl,.inl rfl,rfl⟩,⟨⟨rfl,.inl rfl,rfl⟩,True.intro⟩⟩ (fun _ _ _ _=>(aB (i:=0) (show ((["k"]:List Str)++(["piece", "copies"]:List Str)).Nodup by decide +kernel) (hf:=IG rfl))) (fun _ _ _ _=>eB) (fun _ _ _ _=>(aJ O_law_mended hr (fb (pv 1) (pv 2) (aF (gd (K:=K) rfl) (aF (gd (K:=K) rfl) (pv 2) (pv 0)) ah)))))
      (af (bo (aM (wA (pZ hr)) bW (pv 9) (by with_unfolding_all rfl))
      (af (cD (aJ O_led_past hr (aI (pv 3) (pv 4))) (bU rfl (aG (aB (i:=5) bP.nd) (aG (aB (i:=6) bP.nd) bM))))
      (ai (ay (aV (aI bW (aV (bC (pv 3) (bC (pv 4) (bC (pv 5) (bC (pv 6) (bC (bc cY (pv 7) ah) cW)))))))))))
      aQ)
      (af (aX (i:=10) bP.nd (bg jP rfl Z.list sj (aH (pv 5))))
      (af (dA PassesOwn.never rfl (er rfl Z.range (aH (bf aZ rfl Z.len bZ (aH (pv 8))))) (aB (i:=11) bP.nd)
      (ai (cD (aF cB (pv 9) (pv 11)) (kX (pv 10) (aF cB (pv 8) (pv 11)) set_list))))
      (ai (ay (aV (aI (bg bE rfl Z.tuple cA (aH (pv 8))) (aV (bC (pv 3) (bC (pv 4) (bC (bg bE rfl Z.tuple cA (aH (pv 10))) (bC (pv 6) (bC (pv 7) cW))))))))))))))))),?_⟩
    obtain⟨pp,vs,rfl,e1,rvs⟩:=aL.bF (show aL H plv (.tuple (ps.map bO)) from hp)
    have hvl:vs.length=ps.length:=by have:=rvs.len;rw [Ig] at this;exact this
    have hn60:ps.length<=60:=by have:=ok.pD;rw [Jp] at this;exact this
    obtain⟨cp,cvs,rfl,hcp,rcvs⟩:=aL.bF hc
    have pps:=wu rcvs cc
    have hcl:cvs.length=cs.length:=by have:=cG pps;rw [Ig] at this;exact this
    refine⟨_,rfl,kt,_,rfl,ar.of hkt,rfl,_,_,rfl,_,_,rfl,_,_,rfl,_,_,rfl,_,_,rfl,rfl,?_⟩
    refine⟨_,rfl,_,rfl,(k:Int),rfl,pp,_,rfl,ar.of e1,fun hw'=>absurd hw'.2 (by rw [HT.iD];omega),fun _ p1 np1=>?_⟩
    rw [rL (by omega)]
    have s1:=ae.new (o:=.tup (vs.take k)) np1
    refine⟨_,rfl,o1,fun t1 n1=>?_⟩
    have s2:=ae.new (o:=.tup [qv]) n1
    refine⟨p1,t1,_,_,rfl,rfl,s2 _ _ aa,aa,(by rw [IH];show _+1<=sizeLine;exact IS (ba (by omega))),fun t2 H3 ht2 s3=>?_⟩
    have s03:=(s1.trans s2).trans s3
    refine⟨_,rfl,_,rfl,_,_,rfl,rfl,((k+1:Nat):Int),rfl,pp,_,rfl,ar.of (s03 _ _ e1),fun hw'=>absurd hw'.1 (by rw [HT.iD];omega),fun _ p3 np3=>?_⟩
    rw [lG (by omega)]
    have s4:=ae.new (o:=.tup (vs.drop (k+1))) np3
    refine⟨t2,p3,_,_,rfl,rfl,s4 _ _ ht2,aa,(by rw [Io,IH,JI];show _+1+_<=sizeLine;exact IS (ba (by omega))),fun t5 H2 ht s5=>?_⟩
    have s02:=s03.trans (s4.trans s5)
    rw [yl (by omega)] at ht
    have hq2:aL H2 qv (bO p):=hq.same s02 (cw p)
    have r2:aL H2 (.ref t5) (bK (ps.set k p)):=by
      refine .tup ht ?_
      rw [JX]
      exact aR.setAt hq2 k (rvs.same s02 (bG ps))
    have ho2:=ho.same s02 (aw qs)
    have hcp2:=s02 _ _ hcp
    have pps2:=pps.same s02
    have hc2:=hc.same s02 (cK cc)
    clear s1 s2 s3 s4 s5 s03 np1 n1 np3 ht2 ht
    refine bx ?_
    refine⟨_,rfl,cp,_,rfl,.inr (ar.of hcp2),_,rfl,(by omega),(by omega),fun acc na=>?_⟩
    refine iG (lo:=0) (fun i zs Ie H'=>∃(c1:Option V),Ie=[c1,some (.int (k:Nat)),some (.ref cp)]/\H' acc=some (.lst zs)/\zs=vN (ip cs k i)/\ae H2 H') ?_ ?_ ?_ ?_
    . exact⟨none,rfl,aa,rfl,ae.new na⟩
    . rintro i zs Ie H3 hi ⟨c1,rfl,ha,rfl,s3⟩
      refine⟨ha,ba ?_⟩
      have:=j2 (cs:=cs) (k:=k) (i:=i)
      rw [Ig]
      omega
    . rintro i zs Ie H3 hi ⟨c1,rfl,ha,rfl,s3⟩
      have hil:i<cs.length:=by omega
      have hcs:cs[i]?=some cs[i]:=by simp [hil]
      generalize cs[i]=c at hcs
      obtain⟨cv1,hcv1,oq,ou,rfl,hoq,hou⟩:=fL pps2 (show (cs.map fw)[i]?=some (fw c) by rw [Iu,hcs];rfl)
      rw [KC]
      refine bx ?_
      refine⟨_,rfl,_,rfl,cp,_,_,_,rfl,rfl,ar.of (s3 _ _ hcp2),bV hcv1,oq,_,0,_,rfl,rfl,ar.of (s3 _ _ hoq),cg,_,rfl,rfl,_,rfl,?_⟩
      by_cases hck:c.1=k
      . refine cC (decide_eq_true (by show V.int ((c.1:Nat):Int)=_;rw [hck])) ?_
        refine⟨_,rfl,ha,_,rfl,aa,?_,s3.put na⟩
        rw [wB hcs hck]
        unfold vN
        rw [Iw]
        rfl
      . refine bB (decide_eq_false fun z=>hck (by injection z with z;exact Int.ofNat.inj z)) ?_
        exact⟨_,rfl,ha,by rw [yr hcs hck],s3⟩
    rintro zs Ie H3 ⟨c1,rfl,ha,rfl,s3⟩
    rw [show ((cvs.length:Int)).toNat=cs.length by omega] at ha
    have hpls:ip cs k cs.length=cF cs k:=rfl
    rw [hpls] at ha
    refine bx ?_
    obtain⟨pc,qvs,rfl,hpc,rq⟩:=aL.bF (show aL H2 qv (.tuple [.tuple (p.1.map cn),e6 p.2]) from hq2)
    obtain⟨y1,t1,rfl,q1,rq⟩:=rq.cons_inv
    obtain⟨y2,t2,rfl,q2,rq⟩:=rq.cons_inv
    have z:=rq.nil_inv
    subst z
    obtain⟨da,wd,rfl,hda,rds⟩:=aL.bF q1
    obtain⟨ea,rfl,hea⟩:=vH q2
    have hmp:p∈ps.set k p:=List.mem_set hk' p
    have layp:=gR ok.fA ok.bY p hmp
    have dokp:=ok.bY.fe p hmp
    have tokp:∀c∈cs.map fw,cM xs c.2:=fun c hc=>by
      obtain⟨c',hc',rfl⟩:=Iv.mp hc
      exact tok c' hc'
    refine⟨_,rfl,acc,rfl,⟨_,aN.of ha⟩,fun acc2 na2=>?_⟩
    refine lg (K:=K) (a:=acc) (xs:=vN (cF cs k)) (fun i ys Ie H'=>∃(c1:Option V) (os:List (Option L2.End)),Ie=[c1,some (.ref pc),some (.ref cp)]/\lI cs p ((cF cs k).take i) os/\aR H' ys (os.map (lJ p))/\H' acc2=some (.lst ys)/\ae H3 H') ?_ ?_ ?_ ?_
    . exact⟨none,[],rfl,.nil,.nil,aa,ae.new na2⟩
    . rintro i ys Ie H4 hi ⟨c1,os,rfl,g1,g2,ha2,s4⟩
      refine⟨aN.of (s4 _ _ ha),ha2,ba ?_⟩
      have h1:=cG g1
      have h2:=g2.len
      have h3:=j2 (cs:=cs) (k:=k) (i:=cs.length)
      rw [hpls] at h3
      rw [IH] at h1
      rw [Ig] at h2
      omega
    . rintro i x ys Ie H4 hx' ⟨c1,os,rfl,g1,g2,ha2,s4⟩
      obtain⟨j,hj,rfl⟩:∃j,(cF cs k)[i]?=some j/\x=V.int (j:Nat):=by
        unfold vN at hx'
        rw [Iu] at hx'
        cases z:(cF cs k)[i]? with
        | none=>rw [z] at hx';cases hx'
        | some j=>rw [z] at hx';exact⟨j,rfl,(IA.inj hx').symm⟩
      obtain⟨c,hcj,hck⟩:=(oJ (cs:=cs) (k:=k) (i:=cs.length) (IB hj)).2
      obtain⟨cv1,hcv1,oq,ou,rfl,hoq,hou⟩:=fL pps2 (show (cs.map fw)[j]?=some (fw c) by rw [Iu,hcj];rfl)
      have s24:=s3.trans s4
      refine bx ?_
      refine iI ?_
      refine bh ?_
      refine⟨_,rfl,_,rfl,_,rfl,_,rfl,cp,_,_,_,rfl,rfl,ar.of (s24 _ _ hcp2),bV hcv1,oq,_,1,_,rfl,rfl,ar.of (s24 _ _ hoq),cS,ou,pc,da,ea,cp,wd,cvs,p.1,p.2,cs.map fw,c.2,xs,rfl,FV.same hou s24,s24 _ _ hpc,s24 _ _ hda,rds.same s24 (aP p.1),s24 _ _ hea,s24 _ _ hcp2,pps2.same s24,tok c (IB hcj),dokp.2,ok.bS,tokp,(by rw [Ig];omega),fun v o H5 hP hn hs s5=>?_⟩
      have ha5:=s5 _ _ ha2
      have kt:∀p zs,H5 p=some (.tup zs)->(upd H5 acc2 (.lst (ys++[v]))) p=some (.tup zs):=fun p zs e=>by rw [ao (bJ e ha5 (by intro z;cases z))];exact e
      have rv:aL H5 v (lJ p o):=by
        cases o with
        | none=>rw [hn rfl];exact .aT
        | some e' =>
          obtain⟨t,ea',rfl,ht,hea'⟩:=hs e' rfl
          exact .tup ht (.cons (.tup (s5 _ _ (s24 _ _ hda)) ((rds.same s24 (aP p.1)).same s5 (aP p.1))) (.cons (lC hea') .nil))
      have nL:b0 (lJ p o)=true:=by cases o <;> first | rfl | exact cw _
      refine⟨ha5,_,os++[o],rfl,?_,?_,aa,(s4.trans s5).put na2⟩
      . rw [take1 hj]
        exact L2.dE g1 (.cons ⟨c,hcj,hP⟩ .nil)
      . rw [Iw]
        exact aR.app ((g2.same s5 (lK p os)).av kt (lK p os)) (rv.av kt nL)
    rintro ys Ie H4 ⟨c1,os,rfl,g1,g2,ha2,s4⟩
    have hvl2:(vN (cF cs k)).length=(cF cs k).length:=Ig ..
    rw [hvl2,II] at g1
    refine bx ?_
    refine⟨_,rfl,acc2,_,_,rfl,rfl,aN.of ha2,g2,AX layp.1 layp.2 g1,_,rfl,?_⟩
    have s24:=s3.trans s4
    have s04:=s02.trans s24
    have r4:=r2.same s24 (aw _)
    have ho4:=ho2.same s24 (aw qs)
    obtain⟨qA,qB⟩:=q os g1
    by_cases hn:none∈os
    . refine cC (decide_eq_true (oM.mpr hn)) ?_
      refine⟨_,rfl,_,rfl,.ref t5,ps.set k p,xs,most,rfl,r4,ok.bY,ok.fA,(by have:=ok.bS;omega),ok.n0,ok.pD,ok.m1,ok.m3,fun v ds' H5 cc' r5 s5=>?_⟩
      obtain⟨lp,lvs,rfl,hlp,rl⟩:=aL.bF r5
      obtain⟨ov',w1,rfl,ro',rl⟩:=rl.cons_inv
      obtain⟨cv',w2,rfl,rc',rl⟩:=rl.cons_inv
      have z':=rl.nil_inv
      subst z'
      refine⟨lp,_,rfl,ar.of hlp,rfl,_,_,rfl,_,_,rfl,rfl,?_⟩
      refine⟨_,rfl,_,rfl,_,rfl,_,rfl,_,rfl,_,_,rfl,rfl,(by show 5<=sizeLine;decide),fun r nr=>⟨ln2,fun t nt=>?_⟩⟩
      have q6:=ae.new (o:=.tup [.ref t5,.int (most:Nat),ov',cv',.int (n+1)]) nr
      have q7:=ae.new (o:=.tup [.aT,.ref r]) nt
      have q67:=q6.trans q7
      exact qA hn (.ref t5) ov' cv' ds' t r _ aa (q7 _ _ aa) ((r4.same s5 (aw _)).same q67 (aw _)) cc' (ro'.same q67 (aw _)) (rc'.same q67 (cK cc')) (s04.trans (s5.trans q67))
    . refine bB (decide_eq_false fun z=>hn (oM.mp z)) ?_
      obtain⟨es,rfl⟩:=uA hn
      have rps:aR H4 ys ((es.map fun e=>((p.1,e):Piece)).map bO):=by
        have e:((es.map some).map (lJ p))=(es.map fun e=>((p.1,e):Piece)).map bO:=by rw [Js,Js];rfl
        rw [<-e];exact g2
      have hlen:(cF cs k).length=(es.map fun e=>((p.1,e):Piece)).length:=by have:=cG g1;rw [Ig] at this;rw [Ig];exact this
      obtain⟨op,ws,rfl,e1o,rws⟩:=aL.bF ho4
      have hwl:ws.length=qs.length:=by have:=rws.len;rw [Ig] at this;exact this
      have hpl:ys.length=(es.map fun e=>((p.1,e):Piece)).length:=by have:=rps.len;rw [Ig] at this;exact this
      have ha4:=s4 _ _ ha
      have hpf:=j2 (cs:=cs) (k:=k) (i:=cs.length)
      rw [hpls] at hpf
      refine⟨_,rfl,op,_,rfl,.inr (ar.of e1o),fun so nso=>?_⟩
      refine bx ?_
      have s5:=ae.new (o:=.lst ws) nso
      have hso5:(upd H4 so (.lst ws)) so=some (.lst ws):=aa
      generalize (upd H4 so (.lst ws))=H5 at s5 hso5 ⊢
      generalize hps':(es.map fun e=>((p.1,e):Piece))=ps' at rps hlen hpl
      refine⟨_,rfl,acc,_,rfl,.inl (aN.of (s5 _ _ ha4)),_,rfl,(by omega),(by omega),kf (lo:=0) (fun i Ic H'=>∃(u2:Option V) (ws':List V),Ic=[some (.ref kt),some (.int (k:Nat)),some (.ref pc),some (.ref t5),some (.int (most:Nat)),some (.ref op),some (.ref cp),some (.int n),some (.ref acc),some (.ref acc2),some (.ref so),u2]/\H' so=some (.lst ws')/\aR H' ws' ((eX qs ((cF cs k).take i) (ps'.take i)).map bO)/\ae H4 H') ?_ ?_ ?_⟩
      . exact⟨_,ws,rfl,hso5,rws.same s5 (bG qs),s5⟩
      . rintro i Ic H6 hi ⟨u2,ws',rfl,h1,h2,s6⟩
        rw [KC]
        refine bx ?_
        have hil:i<(cF cs k).length:=by omega
        have hj:(cF cs k)[i]?=some (cF cs k)[i]:=by simp [hil]
        generalize (cF cs k)[i]=j at hj
        have hip:i<ps'.length:=by omega
        have hpi:ps'[i]?=some ps'[i]:=by simp [hip]
        generalize ps'[i]=pce at hpi
        obtain⟨v,hv,rv⟩:=rps.get (i:=i) (d:=bO pce) (by rw [Iu,hpi];rfl)
        have hjl:=(oJ (cs:=cs) (k:=k) (i:=cs.length) (IB hj)).1
        have hwl':ws'.length=qs.length:=by have:=h2.len;rw [Ig,jy] at this;exact this
        have hvn:(vN (cF cs k))[i]?=some (V.int (j:Nat)):=by unfold vN;rw [Iu,hj];rfl
        refine⟨_,rfl,_,rfl,acc2,_,_,_,rfl,rfl,aN.of (s6 _ _ ha2),bV hv,_,rfl,_,rfl,_,rfl,acc,_,_,_,rfl,rfl,aN.of (s6 _ _ ha4),bV hvn,so,_,_,j,rfl,rfl,h1,ye (by rw [hwl'];omega),?_⟩
        have kt':∀p zs,H6 p=some (.tup zs)->(upd H6 so (.lst (ws'.set j v))) p=some (.tup zs):=fun p zs e=>by rw [ao (bJ e h1 (by intro z;cases z))];exact e
        refine⟨_,ws'.set j v,rfl,aa,?_,s6.put nso⟩
        rw [take1 hj,take1 hpi,kH _ _ _ _ _ (by rw [IH,IH];omega),JX]
        exact aR.setAt ((rv.same s6 (cw pce)).av kt' (cw pce)) j (h2.av kt' (bG _))
      . rintro Ic H6 ⟨u2,ws',rfl,h1,h2,s6⟩
        rw [show ((vN (cF cs k)).length:Int).toNat=(cF cs k).length by rw [hvl2];rfl,II,hlen,II] at h2
        refine⟨_,rfl,acc,_,rfl,.inl ⟨aN.of (s6 _ _ ha4),fun tn ntn=>?_⟩⟩
        have q7:=ae.new (o:=.tup (vN (cF cs k))) ntn
        refine⟨_,rfl,_,rfl,_,rfl,so,_,rfl,.inl ⟨aN.of (q7 _ _ h1),fun tw ntw=>?_⟩⟩
        have q8:=ae.new (o:=.tup ws') ntw
        refine⟨_,rfl,_,rfl,(by show 5<=sizeLine;decide),fun r nr=>⟨ln2,fun t nt=>?_⟩⟩
        have q9:=ae.new (o:=.tup [.ref t5,.int (most:Nat),.ref tw,.ref cp,.int n]) nr
        have q10:=ae.new (o:=.tup [.ref tn,.ref r]) nt
        have qall:=((q7.trans q8).trans q9).trans q10
        subst hps'
        exact qB es rfl (.ref t5) (.ref tw) t r tn _ aa (q10 _ _ (q9 _ _ (q8 _ _ aa))) (q10 _ _ aa) ((r4.same s6 (aw _)).same qall (aw _)) (.tup (q10 _ _ (q9 _ _ aa)) (h2.same qall (bG _))) (s04.trans (s6.trans qall))
theorem FY {f:Addr} {fd:FuncData} (F:bR K "law" "law" oP f fd) (Z:Bl mg) {C:Addr} (T:nF K C) {D:Addr} (TK:iZ K D) (O_law_bag:Own P w K mg base "_law_bag" 1 ["script", "k"] (C5 K)) (O_law_take:Own P w K mg base "_law_take" 1 ["bag", "many"] ib) (O_law_count:Own P w K mg base "_law_count" 2 ["bag", "most"] xH) (O_law_plan:Own P w K mg base "_law_plan" 4 ["bag", "count", "most"] z6) (O_Keeper___init__:yS P w K mg base D "Keeper" 12 ["self", "plan", "most"] (yn D)) (O_Keeper_exchange:jT P w K mg base D "exchange" 13 ["self", "place", "piece"] (yt D)) (O_Keeper_plan:jT P w K mg base D "plan" 1 ["self"] (jd D 0)) (O_Keeper_other:jT P w K mg base D "other" 1 ["self"] (jd D 1)) (O_Keeper_paper:jT P w K mg base D "paper" 1 ["self"] (jd D 2)) (O_Keeper_made:jT P w K mg base D "made" 1 ["self"] (jd D 3)) (O_led_past:Own P w K mg base "led_past" 7 ["plan", "most"] (ik P w C)) (O_law_piece:Own P w K mg base "_law_piece" 4 ["bag", "plan"] uE) (O_law_exchanged:Own P w K mg base "_law_exchanged" 12 ["kept", "place", "piece"] yu):bu P w K mg base bQ 14 f fd ["script"] (va K):=by
  refine F.ok (k:=13) ef (fun vs H Q E h=>?_) (fun cdv A outer s H vs Q E hr h=>?_)
  . obtain⟨a,ns,rfl,_⟩:=h
    rfl
  . obtain⟨a,ns,rfl,hS,hlen,q⟩:=h
    refine⟨_,(af (aX (i:=1) ef.nd (aJ O_law_bag hr (aI (pv 0) ah)))
      (af (aX (i:=2) ef.nd (aF cB (cP (fb (bc cY ah (aJ O_law_take hr (aI (pv 1) ah))) ah (bc cY ah (aJ O_law_take hr (aI (pv 1) ah))))) (aJ O_law_take hr (aI (pv 1) ah))))
      (af (aX (i:=3) ef.nd (fi bT (aJ O_law_take hr (aI (pv 1) ah)) ah (aS _)))
      (af (aX (i:=4) ef.nd (aJ O_law_plan hr (fb (pv 1) (aF cB (cP (aI (aJ O_law_count hr (aI (pv 1) ah)) ah)) (bg fX rfl Z.int jQ (aH (pv 3)))) ah)))
      (af (eF (bo (i6 (pv 3))
      (ai (aX (i:=2) ef.nd ah))
      aQ))
      (af (aX (i:=5) ef.nd (xJ O_Keeper___init__ (hr.mono (by decide)) rfl (aI (pv 4) (pv 2))))
      (af (cD (aJ O_led_past hr (aI (pv 4) (pv 2))) (bU rfl (aG (aB (i:=6) ef.nd) (aG (aB (i:=7) ef.nd) bM))))
      (af (aX (i:=8) ef.nd (aV (bC (pv 4) (bC (pv 2) (bC (pv 6) (bC (pv 7) (bC ah cW)))))))
      (af (dA PassesOwn.never rfl (er rfl Z.range (aH (bf (mX rfl) rfl Z.min vw (aI (bf aZ rfl Z.len bZ (aH (pv 0))) (aF cB (cP (aI ah ah)) (bg fX rfl Z.int jQ (aH (pv 3)))))))) (aB (i:=9) ef.nd)
      (af (aX (i:=10) ef.nd (aJ O_law_bag hr (aI (pv 0) (pv 9))))
      (af (aX (i:=11) ef.nd (aJ O_law_take hr (aI (pv 10) (bf aZ rfl Z.len bZ (aH (pv 4))))))
      (af (aX (i:=12) ef.nd (aJ O_law_piece hr (aI (pv 10) (aF aY (pv 8) ah))))
      (af (eF (cD (aJ O_law_exchanged hr (fb (pv 8) (pv 11) (pv 12))) (bU rfl (aG (aB (i:=13) ef.nd) (aG (aB (i:=8) ef.nd) bM)))))
      (af (eF (bo (aM (vy hr.units) (sD O_Keeper_exchange (pv 5) (hr.mono (by decide)) (aI (pv 11) (pv 12))) (pv 13) (aS _))
      (ai (ay gP))
      aQ))
      (ai (bo (aM (vy hr.units) (aV (wo (fF O_Keeper_plan (pv 5) (hr.mono (by decide))) (fF O_Keeper_other (pv 5) (hr.mono (by decide))) (fF O_Keeper_paper (pv 5) (hr.mono (by decide))) (fF O_Keeper_made (pv 5) (hr.mono (by decide))))) (bc fq (aV (aH (aF aY (pv 8) ah))) (eE oO (pv 8) (fk ah) fj)) (aS _))
      (ai (ay gP))
      aQ))))))))
      (ai (ay (fi (Fq hr.units) (aV (wo (fF O_Keeper_plan (pv 5) (hr.mono (by decide))) (fF O_Keeper_other (pv 5) (hr.mono (by decide))) (fF O_Keeper_paper (pv 5) (hr.mono (by decide))) (fF O_Keeper_made (pv 5) (hr.mono (by decide))))) (bc fq (aV (aH (aF aY (pv 8) ah))) (eE oO (pv 8) (fk ah) fj)) (aS _))))))))))))),?_⟩
    refine⟨_,rfl,a,ns,0,rfl,hS,(by decide),fun b H1 nb B1 s1=>?_⟩
    refine bx ?_
    refine⟨_,rfl,b,300,rfl,B1,⟨by decide,by decide +kernel⟩,fun z1 H2 z10 z11 B2 X2=>⟨_,_,rfl,rfl,?_⟩⟩
    refine⟨_,rfl,b,20,rfl,B2,⟨by decide,by decide +kernel⟩,fun z2 H3 z20 z21 B3 X3=>⟨_,_,rfl,rfl,tQ,fun l nl=>?_⟩⟩
    refine⟨_,rfl,b,3,rfl,B3.new nl,⟨by decide,by decide +kernel⟩,fun y H4 y0 y1 B4 X4=>?_⟩
    have hl4:=X4 l _ aa (B3.fm nl)
    have F14:Fix b H1 H4:=(X2.trans X3).trans ((Fix.new nl).trans X4)
    obtain⟨most,hat,hm1,hm3⟩:∃m:Nat,fQ [V.int (1+z1),V.int 300,V.int (1+z2)] y=some (V.int m)/\1<=m/\m<=300:=by
      obtain⟨k1,rfl⟩:∃k:Nat,z1=k:=⟨z1.toNat,by omega⟩
      obtain⟨k2,rfl⟩:∃k:Nat,z2=k:=⟨z2.toNat,by omega⟩
      obtain rfl | rfl | rfl:y=0\/y=1\/y=2:=by omega
      . exact⟨1+k1,cg,by omega,by omega⟩
      . exact⟨300,cS,by decide,by decide⟩
      . exact⟨1+k2,at2,by omega,by omega⟩
    refine⟨l,_,_,_,rfl,rfl,aN.of hl4,hat,?_⟩
    refine bx ?_
    refine⟨_,rfl,b,8,rfl,B4,⟨by decide,by decide +kernel⟩,fun z3 H5 z30 z31 B5 X5=>⟨rfl,?_⟩⟩
    refine bx ?_
    generalize decide (V.int z3=V.int 0)=gr
    have s5:ae H H5:=ae.qG s1 nb (F14.trans X5)
    clear hl4 hat F14 X4 X3 X2 nl B2 B3 B4 X5
    refine⟨_,rfl,_,rfl,b,12,rfl,B5,(by decide),(by decide),fun c H6 c0 c1 B6 X6=>⟨ln2,fun l2 n2=>⟨_,rfl,.inr ⟨_,rfl,?_⟩⟩⟩⟩
    obtain⟨cc,hat,hc0,hc60⟩:∃m:Nat,fQ [V.int (c:Nat),V.int 60] (if gr=true then 1 else 0)=some (V.int m)/\0<m/\m<=60:=by
      cases gr
      . exact⟨c,cg,c0,by omega⟩
      . exact⟨60,cS,by decide,by decide⟩
    have B7:=B6.new (o:=.lst [V.int (c:Nat),V.int 60]) n2
    refine⟨l2,_,_,_,rfl,rfl,aN.of aa,hat,b,cc,3,rfl,B7,hc0,(by omega),(by decide),fun plv xs0 ps H8 r8 hc8 pok0 xok B8 X8=>?_⟩
    refine bx ?_
    have s8:ae H H8:=ae.qG s5 nb ((X6.trans (Fix.new n2)).trans X8)
    have hn0:0<ps.length:=by omega
    have hn60:ps.length<=60:=by omega
    have pok12:=(pok0.up (k:=12) (by decide)).HW [("abcdefgh" : Str)]
    have hx50:(xs0++[("abcdefgh" : Str)]).length<=50:=by rw [Io];have:=xok.2;show _+1<=50;omega
    have habc:("abcdefgh" : Str)∈xs0++[("abcdefgh" : Str)]:=IV _ (Il.mpr rfl)
    have fA:∀x∈xs0++[("abcdefgh" : Str)],eG x:=fun x hx=>(IC.mp hx).elim (xok.1 x) fun h=>by rw [Il.mp h];constructor <;> decide +kernel
    clear hat n2 B7 X6 X8 B6 B5 s5 pok0 xok
    generalize xs0++[("abcdefgh" : Str)]=xs at *
    refine⟨fun σ' H'=>∃m':Nat,σ' = [some (.ref a),some (.ref b),some (.int (m':Nat)),some (.bl gr),some plv,none,none,none,none,none,none,none,none,none]/\1<=m'/\m' <= 300/\H' = H8,?_,?_⟩
    . refine⟨_,rfl,_,rfl,?_⟩
      cases gr
      . exact bw ⟨most,rfl,hm1,hm3,rfl⟩
      . exact bh ⟨300,rfl,by decide,by decide,rfl⟩
    rintro σ' H9 ⟨m,rfl,hm1',hm3',rfl⟩
    have ok:il xs ps m:=⟨pok12,fA,hx50,hn0,hn60,hm1',hm3'⟩
    refine⟨_,rfl,_,rfl,fun kp dx nx ndx nex=>?_⟩
    have s9:ae H9 (upd (upd H9 dx (.own kp)) kp (.ins D dx [])):=fun c o e=>by rw [ao (aK e nx),ao (aK e ndx)];exact e
    refine⟨kp,dx,plv,ps,xs,m,rfl,aa,r8.same s9 (aw ps),ok,fun ov cv ds H10 cc ro rc A b10=>⟨rfl,?_⟩⟩
    refine bx ?_
    have kt10:∀p zs,H9 p=some (.tup zs)->H10 p=some (.tup zs):=fun p zs e=>b10.av aa p zs (s9 _ _ e)
    have s10:ae H H10:=fun c o e=>b10 _ _ (s9 _ _ (s8 _ _ e)) (aK (s8 _ _ e) nx)
    have r10:=r8.av kt10 (aw ps)
    have nkH:H kp=none:=s8.free nx
    refine⟨_,rfl,_,rfl,plv,ps,xs,m,rfl,r10,ok.bY,ok.fA,(by have:=ok.bS;omega),ok.n0,ok.pD,ok.m1,ok.m3,fun v ds' H11 cc' r11 s11=>?_⟩
    obtain⟨lp,lvs,rfl,hlp,rl⟩:=aL.bF r11
    obtain⟨ov',t1,rfl,ro',rl⟩:=rl.cons_inv
    obtain⟨cv',t2,rfl,rc',rl⟩:=rl.cons_inv
    have z':=rl.nil_inv
    subst z'
    obtain rfl:=sS cc cc'
    refine⟨lp,_,rfl,ar.of hlp,rfl,_,_,rfl,_,_,rfl,rfl,?_⟩
    refine⟨_,rfl,_,rfl,_,rfl,_,rfl,(by show 5<=sizeLine;decide),fun kt nkt=>?_⟩
    refine bx ?_
    have q12:=ae.new (o:=.tup [plv,.int (m:Nat),ov',cv',.int 1]) nkt
    have s12:=s11.trans q12
    have hkt:(upd H11 kt (.tup [plv,.int (m:Nat),ov',cv',.int 1])) kt=some (.tup [plv,.int (m:Nat),ov',cv',.int 1]):=aa
    have A12:j1 D (upd H11 kt (.tup [plv,.int (m:Nat),ov',cv',.int 1])) kp plv m ov cv 1:=by obtain⟨dx',hh⟩:=A;exact⟨dx',s12 _ _ hh⟩
    have hro':=ro'.same q12 (aw _)
    have hrc':=rc'.same q12 (cK cc)
    generalize (upd H11 kt (.tup [plv,.int (m:Nat),ov',cv',.int 1]))=H12 at q12 s12 hkt A12 hro' hrc' ⊢
    have s012:=s10.trans s12
    refine⟨_,rfl,a,_,rfl,.inl (s012.seq hS),ln2,fun l3 n3=>⟨_,rfl,.inr ⟨_,rfl,?_⟩⟩⟩
    obtain⟨mx,hat3,hmx⟩:∃m:Nat,fQ [V.int 30,V.int 8] (if gr=true then 1 else 0)=some (V.int m)/\m<=30:=by
      cases gr
      . exact⟨30,cg,by decide⟩
      . exact⟨8,cS,by decide⟩
    refine⟨l3,_,_,_,rfl,rfl,aN.of aa,hat3,_,_,rfl,_,rfl,(by split <;> (try rw [Ig]) <;> omega),(by split <;> (try rw [Ig]) <;> omega),?_⟩
    have q13:=ae.new (o:=.lst [V.int 30,V.int 8]) n3
    obtain⟨I,hol,_⟩:=jZ ok.bY hn0 hm1'
    have hsz:=ur ok.bY hn0 hm1'
    have hLP:=(uw ok.bY hn0 hm1').len
    rw [Ig] at hLP
    have tok0:∀c∈(dt ps m).1,cM xs c.2:=fun c hc=>(I.ok c hc).2
    refine kf (lo:=0) (fun i Ic H'=>∃(u1 u2 u3 u4 u5 u6 u7:Option V) (kt:Addr) (ps':List Piece) (plv1 ov1 cv1 plv2 ov2 cv2:V) (qs:List Piece) (cs:List Cp) (ds:List PyData) (n:Int),Ic=[some (.ref a),some (.ref b),some (.int (m:Nat)),some (.bl gr),some plv,some (.ref kp),u1,u2,some (.ref kt),u3,u4,u5,u6,u7]/\H' kt=some (.tup [plv1,.int (m:Nat),ov1,cv1,.int n])/\j1 D H' kp plv2 m ov2 cv2 n/\aL H' plv1 (bK ps')/\aL H' plv2 (bK ps')/\aL H' ov1 (bK qs)/\aL H' ov2 (bK qs)/\aL H' cv1 (.tuple ds)/\aL H' cv2 (.tuple ds)/\Paired (fun d c=>CD c d) ds cs/\il xs ps' m/\ps'.length=ps.length/\(∀c∈cs,cM xs c.2)/\cs.length<=qs.length/\qs.length<=400/\jj qs/\aL H' plv (bK ps)/\ae H H') ?_ ?_ ?_
    . refine⟨_,_,_,_,_,_,_,kt,ps,plv,ov',cv',plv,ov,cv,(dt ps m).2,(dt ps m).1,ds,1,rfl,q13 _ _ hkt,?_,(r10.same s12 (aw ps)).same q13 (aw ps),(r10.same s12 (aw ps)).same q13 (aw ps),hro'.same q13 (aw _),(ro.same s12 (aw _)).same q13 (aw _),hrc'.same q13 (cK cc),(rc.same s12 (cK cc)).same q13 (cK cc),cc,ok,rfl,tok0,(by omega),(by have:=hsz.2;omega),gR ok.fA (uq ok.bY ok.n0 ok.m1),(r10.same s12 (aw ps)).same q13 (aw ps),s012.trans q13⟩
      obtain⟨dx',hh⟩:=A12
      exact⟨dx',q13 _ _ hh⟩
    . rintro i Ic H13 hi ⟨u1,u2,u3,u4,u5,u6,u7,kt,ps',plv1,ov1,cv1,plv2,ov2,cv2,qs,cs,ds,n,rfl,g1,g2,g3,g4,g5,g6,g7,g8,g9,gok,glen,gtok,gcq,gq4,glay,gp,s13⟩
      rw [KC]
      refine bx ?_
      refine⟨_,rfl,_,rfl,a,ns,i,rfl,s13.seq hS,(by split at hi <;> omega),fun b3 H14 nb3 B14 s14=>?_⟩
      refine bx ?_
      obtain⟨pp,vs,rfl,e1,rvs⟩:=aL.bF (show aL H13 plv (.tuple (ps.map bO)) from gp)
      have hvl:vs.length=ps.length:=by have:=rvs.len;rw [Ig] at this;exact this
      refine⟨_,rfl,_,rfl,pp,_,rfl,.inr (ar.of (s14 _ _ e1)),b3,ps.length,(by rw [hvl];rfl),B14,⟨by omega,fY (by omega) (by omega)⟩,fun pl H15 pl0 pl1 B15 X15=>?_⟩
      refine bx ?_
      obtain⟨k,rfl⟩:∃k:Nat,pl=k:=⟨pl.toNat,by omega⟩
      have kp15:∀p zs,H13 p=some (.tup zs)->H15 p=some (.tup zs):=fun p zs e=>X15 p _ (s14 _ _ e) (B14.dW (s14 _ _ e))
      refine⟨_,rfl,_,rfl,kt,_,0,_,rfl,rfl,ar.of (kp15 _ _ g1),cg,b3,plv1,ps',xs,rfl,B15,g3.av kp15 (aw _),gok.bY,gok.fA,habc,gok.bS,gok.n0,gok.pD,fun qv p H16 rq pd pe B16 X16=>?_⟩
      refine bx ?_
      have kp16:∀p zs,H13 p=some (.tup zs)->H16 p=some (.tup zs):=fun p zs e=>X16 p _ (kp15 _ _ e) (B15.dW (kp15 _ _ e))
      have s16:ae H H16:=ae.qG (ae.qG (s13.trans s14) (s13.free nb3) X15) (s13.free nb3) X16
      have g1':=kp16 _ _ g1
      have g3':=g3.av kp16 (aw _)
      have g4':=g4.av kp16 (aw _)
      have g5':=g5.av kp16 (aw _)
      have g6':=g6.av kp16 (aw _)
      have g7':=g7.av kp16 (cK g9)
      have g8':=g8.av kp16 (cK g9)
      have gp':=gp.av kp16 (aw _)
      have okk:=gok.set (k:=k) pd pe
      have g2':j1 D H16 kp plv2 m ov2 cv2 n:=by
        obtain⟨dx',hh⟩:=g2
        have h14:=s14 _ _ hh
        have n1:kp≠b3:=aK hh nb3
        exact⟨dx',X16 _ _ (X15 _ _ h14 n1) n1⟩
      refine⟨fun σ' H'=>∃(dv:V) (kt':Addr) (os:List (Option L2.End)) (dd:PyData) (qs2:List Piece) (cs2:List Cp) (ds2:List PyData) (n2:Int) (plv1' ov1' cv1':V),σ' = [some (.ref a),some (.ref b),some (.int (m:Nat)),some (.bl gr),some (.ref pp),some (.ref kp),u1,u2,some (.ref kt'),some (.int (i:Nat)),some (.ref b3),some (.int (k:Nat)),some qv,some dv]/\lI cs p (cF cs k) os/\mN cs qs ps' k m p n os dd qs2 cs2 n2/\aL H' dv dd/\H' kt' = some (.tup [plv1',.int (m:Nat),ov1',cv1',.int n2])/\aL H' plv1' (bK (ps'.set k p))/\aL H' ov1' (bK qs2)/\aL H' cv1' (.tuple ds2)/\Paired (fun d c=>CD c d) ds2 cs2/\ae H16 H',?_,?_⟩
      . refine⟨_,rfl,_,rfl,_,rfl,kt,plv1,ov1,cv1,qv,m,k,n,ps',qs,p,cs,ds,xs,rfl,g1',g3',g5',g7',g9,rq,(by omega),okk,gtok,gcq,gq4,fun os hos=>⟨fun hn plv' ov' cv' ds' t r H' ht hr rp cc' ro rc s=>?_,fun es hes plv' ov' t r tn H' ht htn hr rp ro s=>?_⟩⟩
        . refine⟨t,_,rfl,ar.of ht,rfl,_,_,rfl,_,_,rfl,rfl,?_⟩
          exact⟨.aT,r,os,.none,_,_,ds',n+1,plv',ov',cv',rfl,hos,.anew hn rfl rfl rfl rfl,.aT,hr,rp,ro,rc,cc',s⟩
        . refine⟨t,_,rfl,ar.of ht,rfl,_,_,rfl,_,_,rfl,rfl,?_⟩
          exact⟨.ref tn,r,os,.tuple ((cF cs k).map kG),_,cs,ds,n,plv',ov',cv1,rfl,hos,.nS es hes rfl rfl rfl rfl,.tup htn (sT _),hr,rp,ro,g7'.same s (cK g9),g9,s⟩
      rintro σ' H17 ⟨dv,kt',os,dd,qs2,cs2,ds2,n2,plv1',ov1',cv1',rfl,hos,nx1,rdv,f1,f2,f3,f4,f5,s17⟩
      obtain⟨dx',hh17⟩:=g2'
      have hh17:=s17 _ _ hh17
      refine⟨fun σ' H'=>∃(plv2' ov2' cv2':V),σ' = [some (.ref a),some (.ref b),some (.int (m:Nat)),some (.bl gr),some (.ref pp),some (.ref kp),u1,u2,some (.ref kt'),some (.int (i:Nat)),some (.ref b3),some (.int (k:Nat)),some qv,some dv]/\j1 D H' kp plv2' m ov2' cv2' n2/\aL H' plv2' (bK (ps'.set k p))/\aL H' ov2' (bK qs2)/\aL H' cv2' (.tuple ds2)/\cV kp H17 H',?_,?_⟩
      . have hh:=hh17
        obtain⟨layd,depd,nold⟩:=nx1.told
        refine⟨_,rfl,kp,dx',_,rfl,hh,rfl,_,rfl,_,rfl,kp,plv2,ov2,cv2,qv,m,k,n,ps',qs,p,cs,ds,xs,rfl,⟨dx',hh⟩,g4'.same s17 (aw _),g6'.same s17 (aw _),g8'.same s17 (cK g9),g9,rq.same s17 (cw _),(by omega),okk,gtok,gcq,gq4,fun os' hos'=>⟨fun hn plv' ov' cv' ds' H' rp cc' ro rc A' b'=>?_,fun es hes plv' ov' t H' ht rp ro A' b'=>?_⟩⟩
        . obtain⟨e1,e2,e3,e4⟩:=mN.one hos' hos (.anew hn rfl rfl rfl rfl) nx1
          have rd':=rdv.av (b'.av hh) nold
          rw [<-e1] at rd' layd depd
          refine⟨_,rfl,.none,.none,.aT,rd',layd,layd,(by omega),_,rfl,?_⟩
          refine bB (by rw [PySem.SeqAt.eqv_refl _ layd];rfl) ?_
          rw [e2] at ro
          rw [e3] at cc'
          rw [e4] at A'
          obtain rfl:=sS cc' f5
          exact⟨plv',ov',cv',rfl,A',rp,ro,rc,b'⟩
        . obtain⟨e1,e2,e3,e4⟩:=mN.one hos' hos (.nS es hes rfl rfl rfl rfl) nx1
          have rd':=rdv.av (b'.av hh) nold
          rw [<-e1] at rd' layd depd
          refine⟨_,rfl,.tuple ((cF cs k).map kG),.tuple ((cF cs k).map kG),.tup ht (sT _),rd',layd,layd,(by omega),_,rfl,?_⟩
          refine bB (by rw [PySem.SeqAt.eqv_refl _ layd];rfl) ?_
          rw [e2] at ro
          rw [e4] at A'
          have c9:=g9
          rw [e3] at c9
          obtain rfl:=sS c9 f5
          exact⟨plv',ov',cv2,rfl,A',rp,ro,(g8'.same s17 (cK g9)).av (b'.av hh) (cK g9),b'⟩
      rintro σ' H18 ⟨plv2',ov2',cv2',rfl,A18,x1,x2,x3,b18⟩
      obtain⟨dx8,hh18⟩:=A18
      have KA18:j1 D H18 kp plv2' m ov2' cv2' n2:=⟨dx8,hh18⟩
      refine⟨_,rfl,kp,dx8,_,rfl,hh18,rfl,kp,plv2',ov2',cv2',m,n2,rfl,KA18,_,rfl,kp,dx8,_,rfl,hh18,rfl,kp,plv2',ov2',cv2',m,n2,rfl,KA18,_,rfl,kp,dx8,_,rfl,hh18,rfl,kp,plv2',ov2',cv2',m,n2,rfl,KA18,_,rfl,kp,dx8,_,rfl,hh18,rfl,kp,plv2',ov2',cv2',m,n2,rfl,KA18,?_⟩
      refine⟨(by show 4<=sizeLine;decide),fun t4 n4=>?_⟩
      have kp18:∀p zs,H17 p=some (.tup zs)->H18 p=some (.tup zs):=b18.av hh17
      have q19:=ae.new (o:=.tup [plv2',ov2',cv2',.int n2]) n4
      have f18:=q19 _ _ (kp18 _ _ f1)
      refine⟨_,rfl,kt',_,0,_,rfl,rfl,ar.of f18,cg,?_⟩
      refine⟨(by show 1<=sizeLine;decide),fun t1 n1=>?_⟩
      have q20:=ae.new (o:=.tup [plv1']) n1
      have q21:=q19.trans q20
      refine⟨_,rfl,2,rfl,kt',_,rfl,q20 _ _ f18,fun t3 H21 h21 s21=>?_⟩
      refine⟨t1,t3,_,_,rfl,rfl,s21 _ _ aa,h21,(by rw [zm];show 4<=sizeLine;decide),fun t5 H22 h22 s22=>?_⟩
      rw [zm] at h22
      have s1822:=(q21.trans s21).trans s22
      have k22:∀p zs,H17 p=some (.tup zs)->H22 p=some (.tup zs):=fun p zs e=>s1822 _ _ (kp18 _ _ e)
      have lps:=gR okk.fA okk.bY
      have lqs:=nx1.lay hos okk (by omega) glay
      obtain⟨kt1,kt2,kt3⟩:=nx1.keeps okk gtok gcq gq4
      obtain⟨lay4,dep4⟩:=yw (n:=n2) f5 okk.fA kt1 lps lqs
      refine⟨ky (ps'.set k p) qs2 ds2 n2,ky (ps'.set k p) qs2 ds2 n2,.tup (s22 _ _ (s21 _ _ (q20 _ _ aa))) (.cons (x1.same s1822 (aw _)) (.cons (x2.same s1822 (aw _)) (.cons (x3.same s1822 (cK f5)) (.cons (.int _) .nil)))),.tup h22 (.cons (f2.av k22 (aw _)) (.cons (f3.av k22 (aw _)) (.cons (f4.av k22 (cK f5)) (.cons (.int _) .nil)))),lay4,lay4,(by omega),_,rfl,?_⟩
      refine bB (by rw [PySem.SeqAt.eqv_refl _ lay4];rfl) ?_
      have kt22:=k22 _ _ f1
      refine⟨_,_,_,_,_,_,_,kt',ps'.set k p,plv1',ov1',cv1',plv2',ov2',cv2',qs2,cs2,ds2,n2,rfl,kt22,⟨dx8,s1822 _ _ hh18⟩,f2.av k22 (aw _),x1.same s1822 (aw _),f3.av k22 (aw _),x2.same s1822 (aw _),f4.av k22 (cK f5),x3.same s1822 (cK f5),f5,okk,(by rw [Jp];exact glen),kt1,kt2,kt3,lqs,gp'.av (fun p zs e=>k22 _ _ (s17 _ _ e)) (aw _),fun c o e=>s1822 _ _ (b18 _ _ (s17 _ _ (s16 _ _ e)) (aK e nkH))⟩
    rintro Ic H18 ⟨u1,u2,u3,u4,u5,u6,u7,kt,ps',plv1',ov1',cv1',plv2',ov2',cv2',qs2,cs2,ds2,n2,rfl,f1,⟨dx8,hh18⟩,f2,x1,f3,x2,f4,x3,f5,okk,glen,kt1,kt2,kt3,lqs,gp,s18⟩
    have KA18:j1 D H18 kp plv2' m ov2' cv2' n2:=⟨dx8,hh18⟩
    refine⟨_,rfl,kp,dx8,_,rfl,hh18,rfl,kp,plv2',ov2',cv2',m,n2,rfl,KA18,_,rfl,kp,dx8,_,rfl,hh18,rfl,kp,plv2',ov2',cv2',m,n2,rfl,KA18,_,rfl,kp,dx8,_,rfl,hh18,rfl,kp,plv2',ov2',cv2',m,n2,rfl,KA18,_,rfl,kp,dx8,_,rfl,hh18,rfl,kp,plv2',ov2',cv2',m,n2,rfl,KA18,?_⟩
    refine⟨(by show 4<=sizeLine;decide),fun t4 n4=>?_⟩
    have q19:=ae.new (o:=.tup [plv2',ov2',cv2',.int n2]) n4
    have f18:=q19 _ _ f1
    refine⟨_,rfl,kt,_,0,_,rfl,rfl,ar.of f18,cg,?_⟩
    refine⟨(by show 1<=sizeLine;decide),fun t1 n1=>?_⟩
    have q20:=ae.new (o:=.tup [plv1']) n1
    have q21:=q19.trans q20
    refine⟨_,rfl,2,rfl,kt,_,rfl,q20 _ _ f18,fun t3 H21 h21 s21=>?_⟩
    refine⟨t1,t3,_,_,rfl,rfl,s21 _ _ aa,h21,(by rw [zm];show 4<=sizeLine;decide),fun t5 H22 h22 s22=>?_⟩
    rw [zm] at h22
    have s1822:=(q21.trans s21).trans s22
    have lps:=gR okk.fA okk.bY
    obtain⟨lay4,dep4⟩:=yw (n:=n2) f5 okk.fA kt1 lps lqs
    refine⟨ky ps' qs2 ds2 n2,ky ps' qs2 ds2 n2,.tup (s22 _ _ (s21 _ _ (q20 _ _ aa))) (.cons (x1.same s1822 (aw _)) (.cons (x2.same s1822 (aw _)) (.cons (x3.same s1822 (cK f5)) (.cons (.int _) .nil)))),.tup h22 (.cons (f2.same s1822 (aw _)) (.cons (f3.same s1822 (aw _)) (.cons (f4.same s1822 (cK f5)) (.cons (.int _) .nil)))),lay4,lay4,(by omega),?_⟩
    show Q (.bl (PyData.eqv (ky ps' qs2 ds2 n2) (ky ps' qs2 ds2 n2))) H22
    rw [PySem.SeqAt.eqv_refl _ lay4]
    exact q _
end
theorem all_mk {l:PySem.W.OpenLaw} {w:World} {K:Ih} {h:Heap} {mg:Str->Option Value} {fa:Addr} (X:K.In h) (G:h.Ns mainGlobals mg) (hfa:mg "law" = some (.ref fa))
  {f0 f1 f2 f3 f4 f5 f6 f7 f8 f9 f10 f11 f12 f13 f14 f15 f16 f17 f18 f19 f20 f21 f22 f23 f24 f25 f26 f27 f28 f29 f30 f31 f32 f33 f34 f35 f36 f37 f38 f39 f40 f41 f42 f43 f44 f45 f46 f47 f48 f49 f50 f51 f52 f53 f54 f55 f56 f57 f58:Addr} {g0 g1 g2 g3 g4 g5 g6 g7 g8 g9 g10 g11 g12 g13 g14 g15 g16 g17 g18 g19 g20 g21 g22 g23 g24 g25 g26 g27 g28 g29 g30 g31 g32 g33 g34 g35 g36 g37 g38 g39 g40 g41 g42 g43 g44 g45 g46 g47 g48 g49 g50 g51 g52 g53 g54 g55 g56 g57 g58:FuncData}
  {aA:Addr} {dcA:Option Addr} {nA:Nat} {slA:Array (Option Value)}
  {tk_MOST_TO_LEAD:Tok}
  {aE:Addr} {epE:Nat} {s0:Addr} {hsE0:Int} {tkE0:Tok} {dcE0:Option Addr} {nnE0:Nat} {slE0:Array (Option Value)}  {s1:Addr} {hsE1:Int} {tkE1:Tok} {dcE1:Option Addr} {nnE1:Nat} {slE1:Array (Option Value)} {ttE1_0:Tok} {s2:Addr} {hsE2:Int} {tkE2:Tok} {dcE2:Option Addr} {nnE2:Nat} {slE2:Array (Option Value)} {ttE2_0:Tok} {ttE2_1:Tok} {ttE2_2:Tok} {ttE2_3:Tok} {s3:Addr} {hsE3:Int} {tkE3:Tok} {dcE3:Option Addr} {nnE3:Nat} {slE3:Array (Option Value)} {ttE3_0:Tok} {ttE3_1:Tok} {ttE3_2:Tok} {ttE3_3:Tok}
  {aD:Addr} {epD:Nat} {d0:Addr} {hsD0:Int} {tkD0:Tok} {dcD0:Option Addr} {nnD0:Nat} {slD0:Array (Option Value)} {ttD0_0:Tok} {ttD0_1:Tok} {d1:Addr} {hsD1:Int} {tkD1:Tok} {dcD1:Option Addr} {nnD1:Nat} {slD1:Array (Option Value)} {ttD1_0:Tok} {ttD1_1:Tok} {d2:Addr} {hsD2:Int} {tkD2:Tok} {dcD2:Option Addr} {nnD2:Nat} {slD2:Array (Option Value)} {ttD2_0:Tok} {ttD2_1:Tok} {d3:Addr} {hsD3:Int} {tkD3:Tok} {dcD3:Option Addr} {nnD3:Nat} {slD3:Array (Option Value)} {ttD3_0:Tok} {d4:Addr} {hsD4:Int} {tkD4:Tok} {dcD4:Option Addr} {nnD4:Nat} {slD4:Array (Option Value)} {ttD4_0:Tok}
  {C:Addr}
  {D:Addr}
  (z_len:IQ K mainGlobals "len" = some none)
  (z_zip:IQ K mainGlobals "zip" = some none)
  (z_tuple:IQ K mainGlobals "tuple" = some none)
  (z_sorted:IQ K mainGlobals "sorted" = some none)
  (z_set:IQ K mainGlobals "set" = some none)
  (z_dict:IQ K mainGlobals "dict" = some none)
  (z_min:IQ K mainGlobals "min" = some none)
  (z_max:IQ K mainGlobals "max" = some none)
  (z_range:IQ K mainGlobals "range" = some none)
  (z_list:IQ K mainGlobals "list" = some none)
  (z_int:IQ K mainGlobals "int" = some none)
  (z_all:IQ K mainGlobals "all" = some none)
  (z_enumerate:IQ K mainGlobals "enumerate" = some none)
  (gA:IQ K mainGlobals "ALL" = some (some (.ref aA))) (lA:K.lookup aA=some ⟨.type "tuple",dcA,.seq #[.none,.none] nA,slA⟩)
  (g_MOST_TO_LEAD:IQ K mainGlobals "MOST_TO_LEAD" = some (some (.int 60 tk_MOST_TO_LEAD)))
  (gE:IQ K mainGlobals "END_PARTS" = some (some (.ref aE))) (lE:K.lookup aE=some ⟨.type "dict",none,.dict #[⟨hsE0,.str "stop" tkE0,.ref s0⟩,⟨hsE1,.str "go" tkE1,.ref s1⟩,⟨hsE2,.str "less" tkE2,.ref s2⟩,⟨hsE3,.str "is" tkE3,.ref s3⟩] epE,#[]⟩) (qE0:K.lookup s0=some ⟨.type "tuple",dcE0,.seq #[] nnE0,slE0⟩) (qE1:K.lookup s1=some ⟨.type "tuple",dcE1,.seq #[.str "piece" ttE1_0] nnE1,slE1⟩) (qE2:K.lookup s2=some ⟨.type "tuple",dcE2,.seq #[.str "name" ttE2_0,.str "number" ttE2_1,.str "piece" ttE2_2,.str "piece" ttE2_3] nnE2,slE2⟩) (qE3:K.lookup s3=some ⟨.type "tuple",dcE3,.seq #[.str "name" ttE3_0,.str "number" ttE3_1,.str "piece" ttE3_2,.str "piece" ttE3_3] nnE3,slE3⟩)
  (gD:IQ K mainGlobals "DEED_PARTS" = some (some (.ref aD))) (lD:K.lookup aD=some ⟨.type "dict",none,.dict #[⟨hsD0,.str "put" tkD0,.ref d0⟩,⟨hsD1,.str "copy" tkD1,.ref d1⟩,⟨hsD2,.str "add" tkD2,.ref d2⟩,⟨hsD3,.str "read" tkD3,.ref d3⟩,⟨hsD4,.str "tell" tkD4,.ref d4⟩] epD,#[]⟩) (qD0:K.lookup d0=some ⟨.type "tuple",dcD0,.seq #[.str "name" ttD0_0,.str "number" ttD0_1] nnD0,slD0⟩) (qD1:K.lookup d1=some ⟨.type "tuple",dcD1,.seq #[.str "name" ttD1_0,.str "name" ttD1_1] nnD1,slD1⟩) (qD2:K.lookup d2=some ⟨.type "tuple",dcD2,.seq #[.str "name" ttD2_0,.str "number" ttD2_1] nnD2,slD2⟩) (qD3:K.lookup d3=some ⟨.type "tuple",dcD3,.seq #[.str "name" ttD3_0] nnD3,slD3⟩) (qD4:K.lookup d4=some ⟨.type "tuple",dcD4,.seq #[.str "name" ttD4_0] nnD4,slD4⟩)
  (aCC:IQ K mainGlobals "Row" = some (some (.ref C))) (pgC:JP K C Str.empty=true) (hdC:JZ K C=true) (poC:Kf K C=true) (saC:IW K (.ref C) "__setattr__" = some (some (.builtin "object.__setattr__"))) (mkC:J1 K C=true) (kcC:Jn K (.ref C)=true)
  (nC_members:IW K (.ref C) "members" = some none)
  (nC_places:IW K (.ref C) "places" = some none)
  (aCD:IQ K mainGlobals "Keeper" = some (some (.ref D))) (pgD:JP K D Str.empty=true) (hdD:JZ K D=true) (poD:Kf K D=true) (saD:IW K (.ref D) "__setattr__" = some (some (.builtin "object.__setattr__"))) (mkD:J1 K D=true) (kcD:Jn K (.ref D)=true)
  (nD_kept:IW K (.ref D) "kept" = some none)
  (nD_bound:IW K (.ref D) "bound" = some none)
  (nD_past:IW K (.ref D) "past" = some none)
  (nD_copies:IW K (.ref D) "copies" = some none)
  (nD_times:IW K (.ref D) "times" = some none)
  (D0:bI K "parts_of_kind" iq f0 g0)
  (D1:bI K "ways_on" nT f1 g1)
  (D2:bI K "without_ways" iP f2 g2)
  (D3:bI K "names_of" mn f3 g3)
  (D4:bI K "lies_in" nU f4 g4)
  (D5:bI K "part_below" j3 f5 g5)
  (D6:bI K "part_from" kJ f6 g6)
  (D7:bI K "part_at" nV f7 g7)
  (D8:bI K "part_beside" jm f8 g8)
  (D9:bI K "part_of" nW f9 g9)
  (D10:bI K "is_within" kK f10 g10)
  (D11:bI K "facts_of" mr f11 g11)
  (D12:bI K "known" sX f12 g12)
  (D13:bI K "with_known" j4 f13 g13)
  (D14:bI K "covers" qh f14 g14)
  (D15:bI K "moved" sY f15 g15)
  (D16:bI K "stretch_behind" gU f16 g16)
  (D17:bI K "behind" qm f17 g17)
  (D18:bI K "known_beyond" iR f18 g18)
  (D19:bI K "leads" sZ f19 g19)
  (D20:bI K "start" tf f20 g20)
  (D21:gC K C "__init__" "Row.__init__" iS f21 g21)
  (D22:gC K C "place_of" "Row.place_of" iT f22 g22)
  (D23:bI K "reached" nY f23 g23)
  (D24:bI K "heads" tj f24 g24)
  (D25:bI K "copy_for" my f25 g25)
  (D26:bI K "end_to" qo f26 g26)
  (D27:bI K "led_past" mz f27 g27)
  (D28:bI K "meets" tm f28 g28)
  (D29:bI K "with_piece" j5 f29 g29)
  (D30:bI K "first_met" kL f30 g30)
  (D31:bI K "piece_for" kM f31 g31)
  (D32:gC K D "__init__" "Keeper.__init__" gH f32 g32)
  (D33:gC K D "make_anew" "Keeper.make_anew" gg f33 g33)
  (D34:gC K D "mend" "Keeper.mend" jn f34 g34)
  (D35:gC K D "exchange" "Keeper.exchange" gI f35 g35)
  (D36:gC K D "plan" "Keeper.plan" jo f36 g36)
  (D37:gC K D "other" "Keeper.other" iU f37 g37)
  (D38:gC K D "paper" "Keeper.paper" iV f38 g38)
  (D39:gC K D "made" "Keeper.made" jq f39 g39)
  (D40:bI K "_law_bag" n9 f40 g40)
  (D41:bI K "_law_take" mC f41 g41)
  (D42:bI K "_law_names" kN f42 g42)
  (D43:bI K "_law_number" j7 f43 g43)
  (D44:bI K "_law_deed" mD f44 g44)
  (D45:bI K "_law_end" oa f45 g45)
  (D46:bI K "_law_plan" mE f46 g46)
  (D47:bI K "_law_count" kP f47 g47)
  (D48:bI K "_law_all_names" ix f48 g48)
  (D49:bI K "_law_part" mF f49 g49)
  (D50:bI K "_law_with" mG f50 g50)
  (D51:bI K "_law_behind" j8 f51 g51)
  (D52:bI K "_law_covers" j9 f52 g52)
  (D53:bI K "_law_table_of" iW f53 g53)
  (D54:bI K "_law_leads" kR f54 g54)
  (D55:bI K "_law_piece" kT f55 g55)
  (D56:bI K "_law_mended" kd f56 g56)
  (D57:bI K "_law_exchanged" iz f57 g57)
  (D58:bI K "law" oP f58 g58) :
  ∃fd:FuncData,(∀(s:Shared) (v:Value),BindsTo s fd ⟨[v],[]⟩ [("script",v)])/\∀base:Heap,K.In base->base.Ns mainGlobals mg->bu l.prog w K mg base bQ 14 fa fd ["script"] (va K):=by
 have e:=hfa.symm.trans (JN X G D58.a)
 cases e
 have Z:Bl mg:=⟨Jj X G z_len,Jj X G z_zip,Jj X G z_tuple,Jj X G z_sorted,Jj X G z_set,Jj X G z_dict,Jj X G z_min,Jj X G z_max,Jj X G z_range,Jj X G z_list,Jj X G z_int,Jj X G z_all,Jj X G z_enumerate⟩
 have GA:iM K mg aA:=⟨JN X G gA,_,_,_,lA⟩
 have G_MOST_TO_LEAD:mg "MOST_TO_LEAD" = some (.int 60 tk_MOST_TO_LEAD):=JN X G g_MOST_TO_LEAD
 have GE:vM K mg aE s0 s1 s2 s3:=⟨⟨JN X G gE,_,_,lE,(.cons rfl rfl (.cons rfl rfl (.cons rfl rfl (.cons rfl rfl .nil))))⟩,⟨_,_,_,qE0,rfl,rfl,(by show 0<=sizeLine;decide),.nil⟩,⟨_,_,_,qE1,rfl,rfl,(by show 1<=sizeLine;decide),(.cons ⟨_,rfl⟩ .nil)⟩,⟨_,_,_,qE2,rfl,rfl,(by show 4<=sizeLine;decide),(.cons ⟨_,rfl⟩ (.cons ⟨_,rfl⟩ (.cons ⟨_,rfl⟩ (.cons ⟨_,rfl⟩ .nil))))⟩,⟨_,_,_,qE3,rfl,rfl,(by show 4<=sizeLine;decide),(.cons ⟨_,rfl⟩ (.cons ⟨_,rfl⟩ (.cons ⟨_,rfl⟩ (.cons ⟨_,rfl⟩ .nil))))⟩⟩
 have GD:vb K mg aD d0 d1 d2 d3 d4:=⟨⟨JN X G gD,_,_,lD,(.cons rfl rfl (.cons rfl rfl (.cons rfl rfl (.cons rfl rfl (.cons rfl rfl .nil)))))⟩,⟨_,_,_,qD0,rfl,rfl,(by show 2<=sizeLine;decide),(.cons ⟨_,rfl⟩ (.cons ⟨_,rfl⟩ .nil))⟩,⟨_,_,_,qD1,rfl,rfl,(by show 2<=sizeLine;decide),(.cons ⟨_,rfl⟩ (.cons ⟨_,rfl⟩ .nil))⟩,⟨_,_,_,qD2,rfl,rfl,(by show 2<=sizeLine;decide),(.cons ⟨_,rfl⟩ (.cons ⟨_,rfl⟩ .nil))⟩,⟨_,_,_,qD3,rfl,rfl,(by show 1<=sizeLine;decide),(.cons ⟨_,rfl⟩ .nil)⟩,⟨_,_,_,qD4,rfl,rfl,(by show 1<=sizeLine;decide),(.cons ⟨_,rfl⟩ .nil)⟩⟩
 have T:nF K C:=⟨⟨pgC,hdC,poC,saC⟩,nC_members,nC_places⟩
 have TK:iZ K D:=⟨⟨pgD,hdD,poD,saD⟩,nD_kept,nD_bound,nD_past,nD_copies,nD_times⟩
 obtain⟨oc,od,kV,dc,pm,an,cd,ct,sl,rfl,lk,hcd⟩:=D58.F.ex
 refine⟨Je "law" "law" (d6 oP) (dH oP) (au oP) .none kV dc pm an cd ct,fun s v=>.of_eq rfl,fun base _ _=>?_⟩
 have O_parts_of_kind:=bD l.prog w base X G D0 (qp D0.F Z) (mM fun _ _ _ _ _ _ _ _ _=>rfl)
 have O_ways_on:=bD l.prog w base X G D1 (zr D1.F Z GE O_parts_of_kind) (jt fun _ _ _ _ _ _ _=>rfl)
 have O_without_ways:=bD l.prog w base X G D2 (rT D2.F Z O_ways_on) (jt fun _ _ _ _ _ _ _=>rfl)
 have O_names_of:=bD l.prog w base X G D3 (xf D3.F Z GD GE O_parts_of_kind) (jt fun _ _ _ _ _ _ _=>rfl)
 have O_lies_in:=bD l.prog w base X G D4 (zt D4.F Z) (fz fun _ _ _ _ _ _ _ _=>rfl)
 have O_part_below:=bD l.prog w base X G D5 (uR D5.F Z) (fz fun _ _ _ _ _ _ _ _=>rfl)
 have O_part_from:=bD l.prog w base X G D6 (wJ D6.F Z) (fz fun _ _ _ _ _ _ _ _=>rfl)
 have O_part_at:=bD l.prog w base X G D7 (zu D7.F Z O_lies_in) (fz fun _ _ _ _ _ _ _ _=>rfl)
 have O_part_beside:=bD l.prog w base X G D8 (tE D8.F Z) (fz fun _ _ _ _ _ _ _ _=>rfl)
 have O_part_of:=bD l.prog w base X G D9 (zv D9.F Z O_part_below O_part_from O_part_at O_part_beside) (FR fun _ _ _ _ _ _ _ _ _ _=>rfl)
 have O_is_within:=bD l.prog w base X G D10 (wK D10.F Z) (fz fun _ _ _ _ _ _ _ _=>rfl)
 have O_facts_of:=bD l.prog w base X G D11 (xg D11.F Z GA) (jt fun _ _ _ _ _ _ _=>rfl)
 have O_known:=bD l.prog w base X G D12 (CP D12.F Z GA) (fz fun _ _ _ _ _ _ _ _=>rfl)
 have O_with_known:=bD l.prog w base X G D13 (uS D13.F Z GA O_facts_of) (mM fun _ _ _ _ _ _ _ _ _=>rfl)
 have O_covers:=bD l.prog w base X G D14 (AZ D14.F Z GA O_is_within) (fz fun _ _ _ _ _ _ _ _=>rfl)
 have O_moved:=bD l.prog w base X G D15 (CQ D15.F Z) (fz fun _ _ _ _ _ _ _ _=>rfl)
 have O_stretch_behind:=bD l.prog w base X G D16 (oU D16.F Z GA O_moved) (fz fun _ _ _ _ _ _ _ _=>rfl)
 have O_behind:=bD l.prog w base X G D17 (A0 D17.F Z GA O_stretch_behind O_facts_of) (fz fun _ _ _ _ _ _ _ _=>rfl)
 have O_known_beyond:=bD l.prog w base X G D18 (rV D18.F Z GA O_ways_on O_known O_part_of O_with_known) (fz fun _ _ _ _ _ _ _ _=>rfl)
 have O_leads:=bD l.prog w base X G D19 (CS D19.F Z O_known_beyond O_ways_on) (fz fun _ _ _ _ _ _ _ _=>rfl)
 have O_start:=bD l.prog w base X G D20 (CT D20.F Z O_names_of) (jt fun _ _ _ _ _ _ _=>rfl)
 have O_Row___init__:=yi l.prog w base X G aCC mkC kcC D21 (rW D21.F Z T) (fz fun _ _ _ _ _ _ _ _=>rfl)
 have O_Row_place_of:=hV l.prog w base mg T.cl D22 (rX D22.F Z T) (fz fun _ _ _ _ _ _ _ _=>rfl)
 have O_reached:=bD l.prog w base X G D23 (zw D23.F Z O_ways_on) (jt fun _ _ _ _ _ _ _=>rfl)
 have O_heads:=bD l.prog w base X G D24 (CU D24.F Z O_reached O_ways_on) (jt fun _ _ _ _ _ _ _=>rfl)
 have O_copy_for:=bD l.prog w base X G D25 (xh D25.F Z) (FR fun _ _ _ _ _ _ _ _ _ _=>rfl)
 have O_end_to:=bD l.prog w base X G D26 (A1 D26.F Z O_without_ways) (fz fun _ _ _ _ _ _ _ _=>rfl)
 have O_led_past:=bD l.prog w base X G D27 (xi D27.F Z G_MOST_TO_LEAD T O_heads O_start O_Row___init__ O_Row_place_of O_behind O_leads O_copy_for O_end_to) (fz fun _ _ _ _ _ _ _ _=>rfl)
 have O_meets:=bD l.prog w base X G D28 (CV D28.F Z O_covers) (fz fun _ _ _ _ _ _ _ _=>rfl)
 have O_with_piece:=bD l.prog w base X G D29 (uT D29.F Z) (mM fun _ _ _ _ _ _ _ _ _=>rfl)
 have O_first_met:=bD l.prog w base X G D30 (wL D30.F Z O_meets) (fz fun _ _ _ _ _ _ _ _=>rfl)
 have O_piece_for:=bD l.prog w base X G D31 (wM D31.F Z O_leads O_behind O_first_met O_end_to) (mM fun _ _ _ _ _ _ _ _ _=>rfl)
 have O_Keeper___init__:=yi l.prog w base X G aCD mkD kcD D32 (og D32.F Z T TK O_led_past) (mM fun _ _ _ _ _ _ _ _ _=>rfl)
 have O_Keeper_make_anew:=hV l.prog w base mg TK.cl D33 (mR D33.F Z T TK O_led_past) (jt fun _ _ _ _ _ _ _=>rfl)
 have O_Keeper_mend:=hV l.prog w base mg TK.cl D34 (tF D34.F Z TK) (mM fun _ _ _ _ _ _ _ _ _=>rfl)
 have O_Keeper_exchange:=hV l.prog w base mg TK.cl D35 (oh D35.F Z TK O_with_piece O_piece_for O_Keeper_make_anew O_Keeper_mend) (mM fun _ _ _ _ _ _ _ _ _=>rfl)
 have O_Keeper_plan:=hV l.prog w base mg TK.cl D36 (tG D36.F Z TK) (jt fun _ _ _ _ _ _ _=>rfl)
 have O_Keeper_other:=hV l.prog w base mg TK.cl D37 (rY D37.F Z TK) (jt fun _ _ _ _ _ _ _=>rfl)
 have O_Keeper_paper:=hV l.prog w base mg TK.cl D38 (rZ D38.F Z TK) (jt fun _ _ _ _ _ _ _=>rfl)
 have O_Keeper_made:=hV l.prog w base mg TK.cl D39 (tH D39.F Z TK) (jt fun _ _ _ _ _ _ _=>rfl)
 have O_law_bag:=bD l.prog w base X G D40 (zx D40.F Z) (fz fun _ _ _ _ _ _ _ _=>rfl)
 have O_law_take:=bD l.prog w base X G D41 (xj D41.F Z) (fz fun _ _ _ _ _ _ _ _=>rfl)
 have O_law_names:=bD l.prog w base X G D42 (wN D42.F Z O_law_take) (jt fun _ _ _ _ _ _ _=>rfl)
 have O_law_number:=bD l.prog w base X G D43 (uU D43.F Z O_law_take) (jt fun _ _ _ _ _ _ _=>rfl)
 have O_law_deed:=bD l.prog w base X G D44 (xk D44.F Z O_law_take O_law_number) (fz fun _ _ _ _ _ _ _ _=>rfl)
 have O_law_end:=bD l.prog w base X G D45 (zy D45.F Z O_law_take O_law_number) (mM fun _ _ _ _ _ _ _ _ _=>rfl)
 have O_law_plan:=bD l.prog w base X G D46 (xl D46.F Z O_law_take O_law_names O_law_deed O_law_end) (mM fun _ _ _ _ _ _ _ _ _=>rfl)
 have O_law_count:=bD l.prog w base X G D47 (wO D47.F Z O_law_take) (fz fun _ _ _ _ _ _ _ _=>rfl)
 have O_law_all_names:=bD l.prog w base X G D48 (qq D48.F Z) (jt fun _ _ _ _ _ _ _=>rfl)
 have O_law_part:=bD l.prog w base X G D49 (xm D49.F Z) (FR fun _ _ _ _ _ _ _ _ _ _=>rfl)
 have O_law_with:=bD l.prog w base X G D50 (xn D50.F Z) (mM fun _ _ _ _ _ _ _ _ _=>rfl)
 have O_law_behind:=bD l.prog w base X G D51 (uV D51.F Z O_law_with) (fz fun _ _ _ _ _ _ _ _=>rfl)
 have O_law_covers:=bD l.prog w base X G D52 (uW D52.F Z) (fz fun _ _ _ _ _ _ _ _=>rfl)
 have O_law_table_of:=bD l.prog w base X G D53 (r9 D53.F Z) (jt fun _ _ _ _ _ _ _=>rfl)
 have O_law_leads:=bD l.prog w base X G D54 (wQ D54.F Z O_law_part O_law_with) (fz fun _ _ _ _ _ _ _ _=>rfl)
 have O_law_piece:=bD l.prog w base X G D55 (wR D55.F Z O_law_take O_law_all_names O_law_deed O_law_end O_law_number) (fz fun _ _ _ _ _ _ _ _=>rfl)
 have O_law_mended:=bD l.prog w base X G D56 (uX D56.F Z O_law_leads O_law_behind O_law_table_of O_law_covers) (mM fun _ _ _ _ _ _ _ _ _=>rfl)
 have O_law_exchanged:=bD l.prog w base X G D57 (qr D57.F Z T O_law_mended O_led_past) (mM fun _ _ _ _ _ _ _ _ _=>rfl)
 exact FY D58.F Z T TK O_law_bag O_law_take O_law_count O_law_plan O_Keeper___init__ O_Keeper_exchange O_Keeper_plan O_Keeper_other O_Keeper_paper O_Keeper_made O_led_past O_law_piece O_law_exchanged
theorem walk {l:PySem.W.OpenLaw}{q:Program}{loose:List Str}{XP:(Str->Option Value)->Heap->Prop}{YP:World->Heap->Prop}{d:DefRec}{K:Params->Ih}(hn:l.most=some 63)(hdf:d.params.defaults=[])
  (hY:∀(w:World) (h:Heap),YP w h->(K w.params).In h)
  (F:∀(w:World) (mg:Str->Option Value) (fa:Addr) (h:Heap),(K w.params).In h->h.Ns mainGlobals mg->mg d.name=some (.ref fa) ->
   ∃fd:FuncData,(∀(s:Shared) (u:Value),BindsTo s fd ⟨[u],[]⟩ [("script",u)])/\∀base:Heap,(K w.params).In base->base.Ns mainGlobals mg->bu l.prog w (K w.params) mg base bQ 14 fa fd ["script"] (va (K w.params))) :
  PySem.W.WalkO q loose XP YP l.row.toRowW d [] (fun f vs=>PySem.call f vs) :=
 L2.DM (n:=63) (k:=14) (x := "script") (CX:=fun _=>bQ) (sp:=fun w=>va (K w.params)) hn (by decide) hdf ⟨rfl,by decide,by decide⟩ hY F (fun _ _ a ns hl _ hS=>⟨a,ns,rfl,hS,hl,fun _=>rfl⟩) fun _ _ _ _ _ z=>z
end My
theorem PySem.W.Fast.tw5826736309032570936:True:=trivial
theorem PySem.W.Fast.tw721897594143128874:True:=trivial
theorem PySem.W.Fast.tw8142030680488825259:True:=trivial
theorem PySem.W.Fast.tw14635010778314776343:True:=trivial
theorem PySem.W.Fast.tw4724593907461640623:True:=trivial
theorem PySem.W.Fast.tw2458101134058478885:True:=trivial
theorem PySem.W.Fast.tw1922298253751760383:True:=trivial
theorem PySem.W.Fast.tw5792027946931285961:True:=trivial
theorem PySem.W.Fast.tw5964485634438989768:True:=trivial
theorem PySem.W.Fast.tw13030589769604746679:True:=trivial
theorem PySem.W.Fast.tw989440021620925616:True:=trivial
theorem PySem.W.Fast.tw11520167862139101864:True:=trivial
theorem PySem.W.Fast.tw14454493833041090043:True:=trivial
theorem PySem.W.Fast.tw8861740767976678558:True:=trivial
theorem PySem.W.Fast.tw3709931104541669166:True:=trivial
theorem PySem.W.Fast.tw14677240335635582672:True:=trivial
theorem PySem.W.Fast.tw11807884256405648598:True:=trivial
theorem PySem.W.Fast.tw15398913484437166374:True:=trivial
theorem PySem.W.Fast.tw11898506722637891607:True:=trivial
theorem PySem.W.Fast.tw9526323408964357903:True:=trivial
theorem PySem.W.Fast.tw13315277275773128985:True:=trivial
theorem PySem.W.Fast.tw9696947498473833488:True:=trivial
theorem PySem.W.Fast.tw12784219450209932994:True:=trivial
theorem PySem.W.Fast.tw6027059638027665310:True:=trivial
theorem PySem.W.Fast.tw5646816730775100916:True:=trivial
theorem PySem.W.Fast.tw2607969296400982130:True:=trivial
theorem PySem.W.Fast.tw4838231254011621107:True:=trivial
theorem PySem.W.Fast.tw2552938274929940256:True:=trivial
theorem PySem.W.Fast.tw6535942546349724737:True:=trivial
theorem PySem.W.Fast.tw6954424887037754656:True:=trivial
theorem PySem.W.Fast.tw2882095659386872728:True:=trivial
theorem PySem.W.Fast.tw9014000698718374259:True:=trivial
theorem PySem.W.Fast.tw14591852472635611883:True:=trivial
theorem PySem.W.Fast.tw2818484994209985022:True:=trivial
theorem PySem.W.Fast.tw6089420741636490955:True:=trivial
theorem PySem.W.Fast.tw4338598554320485782:True:=trivial
theorem PySem.W.Fast.tw10108814865969046186:True:=trivial
theorem PySem.W.Fast.tw12769421194232032138:True:=trivial
theorem PySem.W.Fast.tw14165370721181928906:True:=trivial
theorem PySem.W.Fast.tw10914614336229789170:True:=trivial
theorem PySem.W.Fast.tw13468526378790815412:True:=trivial
theorem PySem.W.Fast.tw12991287346916340790:True:=trivial
theorem PySem.W.Fast.tw8717190077095569546:True:=trivial
theorem PySem.W.Fast.tw9737087048519491437:True:=trivial
theorem PySem.W.Fast.tw12833906397915777479:True:=trivial
theorem PySem.W.Fast.tw6097317645788685375:True:=trivial
theorem PySem.W.Fast.tw5402554487974271624:True:=trivial
theorem PySem.W.Fast.tw12286328309235815911:True:=trivial
theorem PySem.W.Fast.tw17092385398091746412:True:=trivial
theorem PySem.W.Fast.tw11759814908479169688:True:=trivial
theorem PySem.W.Fast.tw16576155164889482006:True:=trivial
theorem PySem.W.Fast.tw2892709986691066793:True:=trivial
theorem PySem.W.Fast.tw1560251551371416550:True:=trivial
theorem PySem.W.Fast.tw10644009636789722026:True:=trivial
theorem PySem.W.Fast.tw9990469557153152650:True:=trivial
theorem PySem.W.Fast.tw15329852629583457375:True:=trivial
theorem PySem.W.Fast.tw689995075245853202:True:=trivial
theorem PySem.W.Fast.tw815139733697088171:True:=trivial
theorem PySem.W.Fast.tw6147773075314701894:True:=trivial
theorem PySem.W.Fast.tw9499988419553979718:True:=trivial
theorem PySem.W.Fast.tw5935444279953953880:True:=trivial
theorem PySem.W.Fast.tw13772498153462932512:True:=trivial
theorem PySem.W.Fast.tw14482832889906860545:True:=trivial
theorem PySem.W.Fast.tw2575175696278924255:True:=trivial
theorem PySem.W.Fast.tw5318194287053803265:True:=trivial
theorem PySem.W.Fast.tw12477728022175188791:True:=trivial
theorem PySem.W.Fast.tw719401510175068319:True:=trivial
theorem PySem.W.Fast.tw13445666621340616019:True:=trivial
theorem PySem.W.Fast.tw8226215743004616215:True:=trivial
theorem PySem.W.Fast.tw16029035003822071103:True:=trivial
theorem PySem.W.Fast.tw8341838633122613370:True:=trivial
theorem PySem.W.Fast.tw17652145017220517295:True:=trivial
theorem PySem.W.Fast.tw2095359339096332822:True:=trivial
theorem PySem.W.Fast.tw9807831914082145743:True:=trivial
theorem PySem.W.Fast.tw16943073460469263956:True:=trivial
theorem PySem.W.Fast.tw160232532692709717:True:=trivial
theorem PySem.W.Fast.tw10138693923368210535:True:=trivial
theorem PySem.W.Fast.tw5953483906996417918:True:=trivial
theorem PySem.W.Fast.tw7649251486893398199:True:=trivial
theorem PySem.W.Fast.tw7819462922924266579:True:=trivial
theorem PySem.W.Fast.tw15977672650102060665:True:=trivial
theorem PySem.W.Fast.tw6504615678379293962:True:=trivial
theorem PySem.W.Fast.tw3183109459382737831:True:=trivial
theorem PySem.W.Fast.tw3147419067819648839:True:=trivial
theorem PySem.W.Fast.tw4435566504509818679:True:=trivial
theorem PySem.W.Fast.tw3019088687506292272:True:=trivial
theorem PySem.W.Fast.tw2277077494074324113:True:=trivial
theorem PySem.W.Fast.tw5476948407144247813:True:=trivial
theorem PySem.W.Fast.tw16107657657147685748:True:=trivial
theorem PySem.W.Fast.tw9505497915527604382:True:=trivial
theorem PySem.W.Fast.tw11427173268111744308:True:=trivial
theorem PySem.W.Fast.tw3363788448316635759:True:=trivial
theorem PySem.W.Fast.tw9137261760555483918:True:=trivial
theorem PySem.W.Fast.tw10296900183548782770:True:=trivial
theorem PySem.W.Fast.tw14349277608935690297:True:=trivial
theorem PySem.W.Fast.tw17606873590412512589:True:=trivial
theorem PySem.W.Fast.tw2555994392060285937:True:=trivial
theorem PySem.W.Fast.tw11586820642156453282:True:=trivial
theorem PySem.W.Fast.tw16351186938610847737:True:=trivial
theorem PySem.W.Fast.tw6079577132588776319:True:=trivial
theorem PySem.W.Fast.tw17168187820098428440:True:=trivial
theorem PySem.W.Fast.tw2412402888393213521:True:=trivial
theorem PySem.W.Fast.tw17072906080927509880:True:=trivial
theorem PySem.W.Fast.tw13051068285116201851:True:=trivial
theorem PySem.W.Fast.tw11519619123832983307:True:=trivial
theorem PySem.W.Fast.tw14816532074596641104:True:=trivial
theorem PySem.W.Fast.tw10445753514096827681:True:=trivial
theorem PySem.W.Fast.tw13275771989359133647:True:=trivial
theorem PySem.W.Fast.tw16097447963509335124:True:=trivial
theorem PySem.W.Fast.tw2474119219800941523:True:=trivial
theorem PySem.W.Fast.tw11237294900045800639:True:=trivial
theorem PySem.W.Fast.tw2076522047137505477:True:=trivial
theorem PySem.W.Fast.tw17044396810080337998:True:=trivial
theorem PySem.W.Fast.tw14498984632503233978:True:=trivial
theorem PySem.W.Fast.tw8795654261167489738:True:=trivial
theorem PySem.W.Fast.tw13108631877647466142:True:=trivial
theorem PySem.W.Fast.tw13521390945465224142:True:=trivial
theorem PySem.W.Fast.tw11988491587549464673:True:=trivial
theorem PySem.W.Fast.tw15358316188246390371:True:=trivial
theorem PySem.W.Fast.tw12099335674319375257:True:=trivial
theorem PySem.W.Fast.tw17058161946252597671:True:=trivial
theorem PySem.W.Fast.tw9983303161150501383:True:=trivial
theorem PySem.W.Fast.tw1866301481955368253:True:=trivial
theorem PySem.W.Fast.tw17191544178247872494:True:=trivial
theorem PySem.W.Fast.tw11464391671651157913:True:=trivial
theorem PySem.W.Fast.tw3461319723898368673:True:=trivial
theorem PySem.W.Fast.tw16338507041275796446:True:=trivial
theorem PySem.W.Fast.tw16413953130733998742:True:=trivial
theorem PySem.W.Fast.tw15707401133156085783:True:=trivial
theorem PySem.W.Fast.tw7833606397743412546:True:=trivial
theorem PySem.W.Fast.tw15411841821213369752:True:=trivial
theorem PySem.W.Fast.tw11470810169597443045:True:=trivial
theorem PySem.W.Fast.tw10520223484531417620:True:=trivial
theorem PySem.W.Fast.tw791055750066381776:True:=trivial
theorem PySem.W.Fast.tw6271586037658607371:True:=trivial
theorem PySem.W.Fast.tw8050548052679090919:True:=trivial
theorem PySem.W.Fast.tw37295999860921310:True:=trivial
theorem PySem.W.Fast.tw10370352873076492089:True:=trivial
theorem PySem.W.Fast.tw9293813288844977851:True:=trivial
theorem PySem.W.Fast.tw12265290224900994480:True:=trivial
theorem PySem.W.Fast.tw6605465556449532299:True:=trivial
theorem PySem.W.Fast.tw4664269032328086357:True:=trivial
theorem PySem.W.Fast.tw8949810561572896630:True:=trivial
theorem PySem.W.Fast.tw15171382417188247477:True:=trivial
theorem PySem.W.Fast.tw13209455227978206856:True:=trivial
open PySem PySem.W PyProof.Rows
set_option maxRecDepth 100000 in
set_option maxHeartbeats 0 in
theorem PySem.Challenge.cw_ledpast_k44_keepers_by_hand_holds : PySem.Challenge.rw_ledpast_k44_keepers_by_hand.Holds := by
 w_on; o_law; k_head; (case hw => w_witness2)
 k_fill
 refine My.walk (l := PySem.Challenge.rw_ledpast_k44_keepers_by_hand) rfl rfl (fun w h Y => PySem.W.kIn_of Y) ?F
 case F =>
  intro w mg fa h KX G hmg
  refine' My.all_mk KX G hmg ?z_len ?z_zip ?z_tuple ?z_sorted ?z_set ?z_dict ?z_min ?z_max ?z_range ?z_list ?z_int ?z_all ?z_enumerate ?gA ?lA ?g_MOST_TO_LEAD ?gE ?lE ?qE0 ?qE1 ?qE2 ?qE3 ?gD ?lD ?qD0 ?qD1 ?qD2 ?qD3 ?qD4 ?aCC ?pgC ?hdC ?poC ?saC ?mkC ?kcC ?nC_members ?nC_places ?aCD ?pgD ?hdD ?poD ?saD ?mkD ?kcD ?nD_kept ?nD_bound ?nD_past ?nD_copies ?nD_times (L2.def_mk ?a0 ?l0 ?c0 ?k0) (L2.def_mk ?a1 ?l1 ?c1 ?k1) (L2.def_mk ?a2 ?l2 ?c2 ?k2) (L2.def_mk ?a3 ?l3 ?c3 ?k3) (L2.def_mk ?a4 ?l4 ?c4 ?k4) (L2.def_mk ?a5 ?l5 ?c5 ?k5) (L2.def_mk ?a6 ?l6 ?c6 ?k6) (L2.def_mk ?a7 ?l7 ?c7 ?k7) (L2.def_mk ?a8 ?l8 ?c8 ?k8) (L2.def_mk ?a9 ?l9 ?c9 ?k9) (L2.def_mk ?a10 ?l10 ?c10 ?k10) (L2.def_mk ?a11 ?l11 ?c11 ?k11) (L2.def_mk ?a12 ?l12 ?c12 ?k12) (L2.def_mk ?a13 ?l13 ?c13 ?k13) (L2.def_mk ?a14 ?l14 ?c14 ?k14) (L2.def_mk ?a15 ?l15 ?c15 ?k15) (L2.def_mk ?a16 ?l16 ?c16 ?k16) (L2.def_mk ?a17 ?l17 ?c17 ?k17) (L2.def_mk ?a18 ?l18 ?c18 ?k18) (L2.def_mk ?a19 ?l19 ?c19 ?k19) (L2.def_mk ?a20 ?l20 ?c20 ?k20) (L2.met_mk ?a21 ?i21 ?l21 ?c21 ?k21) (L2.met_mk ?a22 ?i22 ?l22 ?c22 ?k22) (L2.def_mk ?a23 ?l23 ?c23 ?k23) (L2.def_mk ?a24 ?l24 ?c24 ?k24) (L2.def_mk ?a25 ?l25 ?c25 ?k25) (L2.def_mk ?a26 ?l26 ?c26 ?k26) (L2.def_mk ?a27 ?l27 ?c27 ?k27) (L2.def_mk ?a28 ?l28 ?c28 ?k28) (L2.def_mk ?a29 ?l29 ?c29 ?k29) (L2.def_mk ?a30 ?l30 ?c30 ?k30) (L2.def_mk ?a31 ?l31 ?c31 ?k31) (L2.met_mk ?a32 ?i32 ?l32 ?c32 ?k32) (L2.met_mk ?a33 ?i33 ?l33 ?c33 ?k33) (L2.met_mk ?a34 ?i34 ?l34 ?c34 ?k34) (L2.met_mk ?a35 ?i35 ?l35 ?c35 ?k35) (L2.met_mk ?a36 ?i36 ?l36 ?c36 ?k36) (L2.met_mk ?a37 ?i37 ?l37 ?c37 ?k37) (L2.met_mk ?a38 ?i38 ?l38 ?c38 ?k38) (L2.met_mk ?a39 ?i39 ?l39 ?c39 ?k39) (L2.def_mk ?a40 ?l40 ?c40 ?k40) (L2.def_mk ?a41 ?l41 ?c41 ?k41) (L2.def_mk ?a42 ?l42 ?c42 ?k42) (L2.def_mk ?a43 ?l43 ?c43 ?k43) (L2.def_mk ?a44 ?l44 ?c44 ?k44) (L2.def_mk ?a45 ?l45 ?c45 ?k45) (L2.def_mk ?a46 ?l46 ?c46 ?k46) (L2.def_mk ?a47 ?l47 ?c47 ?k47) (L2.def_mk ?a48 ?l48 ?c48 ?k48) (L2.def_mk ?a49 ?l49 ?c49 ?k49) (L2.def_mk ?a50 ?l50 ?c50 ?k50) (L2.def_mk ?a51 ?l51 ?c51 ?k51) (L2.def_mk ?a52 ?l52 ?c52 ?k52) (L2.def_mk ?a53 ?l53 ?c53 ?k53) (L2.def_mk ?a54 ?l54 ?c54 ?k54) (L2.def_mk ?a55 ?l55 ?c55 ?k55) (L2.def_mk ?a56 ?l56 ?c56 ?k56) (L2.def_mk ?a57 ?l57 ?c57 ?k57) (L2.def_mk ?a58 ?l58 ?c58 ?k58)
  case gA | lA | g_MOST_TO_LEAD | gE | lE | qE0 | qE1 | qE2 | qE3 | gD | lD | qD0 | qD1 | qD2 | qD3 | qD4 | aCC | pgC | hdC | poC | saC | mkC | kcC | nC_members | nC_places | aCD | pgD | hdD | poD | saD | mkD | kcD | nD_kept | nD_bound | nD_past | nD_copies | nD_times | a0 | l0 | c0 | k0 | a1 | l1 | c1 | k1 | a2 | l2 | c2 | k2 | a3 | l3 | c3 | k3 | a4 | l4 | c4 | k4 | a5 | l5 | c5 | k5 | a6 | l6 | c6 | k6 | a7 | l7 | c7 | k7 | a8 | l8 | c8 | k8 | a9 | l9 | c9 | k9 | a10 | l10 | c10 | k10 | a11 | l11 | c11 | k11 | a12 | l12 | c12 | k12 | a13 | l13 | c13 | k13 | a14 | l14 | c14 | k14 | a15 | l15 | c15 | k15 | a16 | l16 | c16 | k16 | a17 | l17 | c17 | k17 | a18 | l18 | c18 | k18 | a19 | l19 | c19 | k19 | a20 | l20 | c20 | k20 | a21 | i21 | l21 | c21 | k21 | a22 | i22 | l22 | c22 | k22 | a23 | l23 | c23 | k23 | a24 | l24 | c24 | k24 | a25 | l25 | c25 | k25 | a26 | l26 | c26 | k26 | a27 | l27 | c27 | k27 | a28 | l28 | c28 | k28 | a29 | l29 | c29 | k29 | a30 | l30 | c30 | k30 | a31 | l31 | c31 | k31 | a32 | i32 | l32 | c32 | k32 | a33 | i33 | l33 | c33 | k33 | a34 | i34 | l34 | c34 | k34 | a35 | i35 | l35 | c35 | k35 | a36 | i36 | l36 | c36 | k36 | a37 | i37 | l37 | c37 | k37 | a38 | i38 | l38 | c38 | k38 | a39 | i39 | l39 | c39 | k39 | a40 | l40 | c40 | k40 | a41 | l41 | c41 | k41 | a42 | l42 | c42 | k42 | a43 | l43 | c43 | k43 | a44 | l44 | c44 | k44 | a45 | l45 | c45 | k45 | a46 | l46 | c46 | k46 | a47 | l47 | c47 | k47 | a48 | l48 | c48 | k48 | a49 | l49 | c49 | k49 | a50 | l50 | c50 | k50 | a51 | l51 | c51 | k51 | a52 | l52 | c52 | k52 | a53 | l53 | c53 | k53 | a54 | l54 | c54 | k54 | a55 | l55 | c55 | k55 | a56 | l56 | c56 | k56 | a57 | l57 | c57 | k57 | a58 | l58 | c58 | k58 | z_len | z_zip | z_tuple | z_sorted | z_set | z_dict | z_min | z_max | z_range | z_list | z_int | z_all | z_enumerate => k_is
