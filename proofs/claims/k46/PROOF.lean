import PyProof.Rows.All
import Wide.All
import OpenK.AllK
import Wide.FinOn
import Lean
import PyProof.EqAt
import PyProof.EqKinds
import PyProof.TupleCall
import PyProof.NeData
import Wide.Seal
import Wide.OfPy
import KE.KSetDisp
import PyProof.DictCompW
import PyProof.EnumMake
import PyProof.Draws
import PyProof.ListMulRoad
import PyProof.TupleOfStr
import PyProof.ListRange
import PyProof.ExcAttrAll.ValueError
import PySem.Challenge.RW_ledpast_k46_two_keepers
open PySem.W renaming Frag→IC
open List renaming length_map→ID
open List renaming mem_cons→IE
open Nat renaming le_refl→IF
open PySem.Heap renaming lt_size→IG
open List renaming mem_singleton→IH
open PySem.Heap renaming get?_push_of_some→II
open List renaming length_append→IJ
open PySem.Heap renaming get?_push_size→IK
open Nat renaming ne_of_lt→IL
open List renaming mem_cons_of_mem→IM
open List renaming mem_cons_self→IP
open Nat renaming le_trans→IQ
open List renaming mem_map→IS
open List renaming map_append→IT
open Option renaming some→IU
open List renaming mem_append→IV
open PySem.W renaming nsIn→IW
open List renaming size_toArray→IX
open List renaming getElem?_eq_some_iff→IY
open List renaming getElem?_map→IZ
open List renaming mem_of_getElem?→Ja
open Nat renaming zero_le→Jc
open Nat renaming lt_irrefl→Jd
open Bool renaming false_ne_true→Je
open PySem.W renaming findIn→Jf
open Or renaming inr→Jg
open PySem.Heap renaming size_push→Jh
open Nat renaming lt_of_lt_of_le→Ji
open List renaming map_cons→Jj
open PySem.Heap renaming SameBut→Jk
open List renaming mem_append_right→Jl
open List renaming length_take→Jm
open List renaming take_length→Jn
open Nat renaming le_of_lt→Jo
open Bool renaming and_eq_true→Jp
open List renaming not_mem_nil→Jq
open List renaming length_cons→Jr
open List renaming range→Js
open Nat renaming lt_succ_of_lt→Jt
open List renaming take_add_one→Ju
open PySem.W renaming fnOf→Jv
open List renaming append_assoc→Jw
open PySem.W renaming mg_of→Jx
open PySem.W renaming mg_none_of→Jy
open List renaming mem_append_left→Jz
open Array renaming length_toList→JA
open Nat renaming ne_of_gt→JB
open PySem.W renaming keepIn→JC
open Nat renaming lt_succ_self→JD
open List renaming lookup→JE
open PySem.Heap renaming get?_update_other→JF
open List renaming length_set→JG
open PySem.W renaming emptyDict→JH
open Nat renaming le_succ→JI
open PySem.Heap renaming get?_update_self→JJ
open List renaming lookup_cons→JK
open Nat renaming le_add_right→JL
open PySem.Around renaming under_plainId→JM
open List renaming map_map→JN
open PySem.W renaming instObj→JO
open List renaming append_nil→JP
open List renaming nodup_cons→JQ
open List renaming replicate→JR
open Int renaming toNat_natCast→JS
open Bool renaming false_eq_true→JT
open List renaming mem_filter→JU
open List renaming mem_range→JV
open List renaming filterMap_cons→JW
open List renaming length→JX
open List renaming getElem?_append_left→JY
open PySem.W renaming codeIn→JZ
open List renaming Pairwise→J0
open List renaming forIn_cons→J1
open List renaming length_filter_le→J3
open List renaming mem_flatMap→J4
open PySem.W renaming plainGet→Ka
open PySem.W renaming makesIn→Kb
open List renaming length_drop→Kc
open List renaming any_cons→Kd
open List renaming foldl_cons→Ke
open List renaming find?_cons→Kf
open List renaming filter_append→Kg
open List renaming nodup_append→Kh
open List renaming all_eq_true→Ki
open Int renaming toNat→Kj
open Bool renaming eq_iff_iff→Kk
open PySem.W renaming hasDictIn→Kl
open PySem.W renaming isFn→Km
open List renaming length_replicate→Kn
open Nat renaming lt_of_le_of_lt→Ko
open Nat renaming lt_trans→Kp
open List renaming nodup_nil→Kq
open Nat renaming le_of_succ_le→Kr
open Bool renaming true_and→Kt
open List renaming getElem?_eq_none→Ku
open List renaming filterMap→Kv
open List renaming mem_of_mem_take→Kw
open PySem.W renaming mroIn→Kx
open List renaming getElem?_set_self→Ky
open Bool renaming false_and→Kz
open List renaming mem_filterMap→KC
open PySem.W renaming lookIn→KD
open PySem.W renaming plainOver→KG
open List renaming of_mem_zip→KH
open List renaming getElem?_append_right→KJ
open List renaming all_cons→KL
open Array renaming getElem?_toList→KN
open List renaming getElem_mem→KO
open List renaming forIn_nil→KP
open Option renaming map_some→KQ
open List renaming length_nil→KR
open List renaming map_congr_left→KS
open List renaming getElem?_eq_getElem→KW
open List renaming length_range→KY
open Nat renaming not_succ_le_self→KZ
open List renaming foldl_append→K3
open List renaming pairwise_cons→K4
open PySem.W renaming kdsCode→K5
open List renaming filter_cons_of_neg→K6
open List renaming getElem?_of_mem→K7
open List renaming mem_or_eq_of_mem_set→K8
open List renaming map_set→K9
open PySem.W renaming methodObj→La
open PySem.Heap renaming get?_none_of_le→Lb
open List renaming getElem?_set_ne→Lc
open PySem.W renaming plainGet_of→Le
open PySem.W renaming callWith_K→Lf
open List renaming getElem?_replicate→Lg
open List renaming filterMap_map→Lh
open PySem.Heap renaming get?_push_cases→Li
open List renaming take_of_length_le→Lj
open Bool renaming eq_false_iff→Lk
open List renaming find?_cons_of_pos→Ll
open List renaming find?_cons_of_neg→Lm
open List renaming filter_cons_of_pos→Ln
open PySem renaming wpAny_bind→Lo
open PySem renaming wpAny_pure→Lq
open PySem renaming wpAny_mono→Lr
open PySem renaming wpAny_holding→Ls
open PySem renaming wpAny_call_entry→Lu
open PySem renaming wpAny_newObj_type→Lv
open PySem renaming wpAny_field→Lw
open PySem renaming wpAny_seqItems→Lx
open PySem renaming codeAny_builtin→Ly
open PySem renaming wpAny_truthy_bool→Lz
open PySem renaming wpAny_rule→LA
open PySem renaming codeAny_mono→LB
open PySem renaming wpAny_setField→LC
open PySem renaming wpAny_attempt→LD
open PySem renaming wpAny_standAt→LG
open PySem renaming wpAny_passesOwn→LH
open PySem renaming wpAny_pyIter_tuple→LJ
open PySem renaming wpAny_typeOf→LK
open PySem renaming wpAny_setField_rec→LL
open PySem renaming wpAny_setState_of→LM
open PySem renaming wpAny_Call_Name_kw→LN
open PySem renaming wpAny_isInstance→LO
open PySem renaming wpAny_setEntries_of→LP
open PySem renaming wpAny_alloc→LQ
open PySem renaming wpAny_execs_nil→LR
open PySem renaming wpAny_onRaise→LU
open PySem renaming wpAny_pyIter_zip→LV
open PySem renaming wpAny_askSetting→LW
open PySem renaming wpAny_ite_split→LX
open PySem renaming wpAny_fieldsOf→LY
open PySem renaming wpAny_pyIter_enum→LZ
open PySem renaming wpAny_pyHash_str→L0
open PySem renaming wpAny_pyIter_list→L1
open PySem renaming wpAny_sequenceKey→L3
open PySem renaming wpAny_updateSeq_pair→L4
open PySem renaming wpAny_setEpoch_of→L5
open PySem renaming codeAny_call_builtin→L6
open PySem renaming wpAny_comprehension_free→L7
open PySem renaming wpAny_letOwnedTupleGo_zip→L8
set_option maxHeartbeats 8000000
set_option Elab.async false
set_option linter.all false
set_option maxRecDepth 100000
namespace L2
open PySem PySem.Spec PyProof.Rows
abbrev Key:=Sum Int Str
def iR:Key->Value->Bool
 | .inl k,v=>Value.isInt k v
 | .inr x,v=>Value.isStrOf x v
def Hc (w:World):Key->Int
 | .inl k=>hashInt k
 | .inr x=>hashStr w x
theorem cW:∀{k:Key} {v:Value},iR k v=true->(∃i t,k=Sum.inl i/\v=Value.int i t)\/(∃x t,k=Sum.inr x/\v=Value.str x t)
 | .inl i,v,h=>by
  obtain⟨t,e⟩:=Value.isInt_shape (k:=i) (v:=v) h
  exact .inl ⟨i,t,rfl,e⟩
 | .inr x,v,h=>by
  obtain⟨t,e⟩:=Value.isStrOf_shape (x:=x) (v:=v) h
  exact .inr ⟨x,t,rfl,e⟩
theorem zv (i:Int)(t:Tok):iR (.inl i) (.int i t)=true:=by simp [iR,Value.isInt]
theorem zw (x:Str)(t:Tok):iR (.inr x) (.str x t)=true:=by simp [iR,Value.isStrOf]
theorem EK (a b:Int):decide ((Sum.inl a:Key)=Sum.inl b)=(a == b):=by
 by_cases e:a=b
 ·subst e;simp
 ·have h:¬(Sum.inl a:Key)=Sum.inl b:=fun q=>e (Sum.inl.inj q)
  rw [decide_eq_false h]
  exact (beq_eq_false_iff_ne.mpr e).symm
theorem EL (a b:Str):decide ((Sum.inr a:Key)=Sum.inr b)=decide (a=b):=by
 by_cases e:a=b
 ·subst e;simp
 ·have h:¬(Sum.inr a:Key)=Sum.inr b:=fun q=>e (Sum.inr.inj q)
  rw [decide_eq_false h,decide_eq_false e]
theorem EM (a:Int)(b:Str):decide ((Sum.inl a:Key)=Sum.inr b)=false:=decide_eq_false (fun q=>nomatch q)
theorem EN (a:Str)(b:Int):decide ((Sum.inr a:Key)=Sum.inl b)=false:=decide_eq_false (fun q=>nomatch q)
def aT (prog:Program)(w:World):PySem.KeyKind prog w Key where
 is:=iR
 hash:=Hc w
 inj:=fun v a b ha hb=>by
  rcases cW ha with ⟨i,t,rfl,rfl⟩ | ⟨x,t,rfl,rfl⟩
  ·rcases cW hb with ⟨j,u,rfl,e⟩ | ⟨y,u,rfl,e⟩
   ·injection e with e1 _;rw [e1]
   ·exact nomatch e
  ·rcases cW hb with ⟨j,u,rfl,e⟩ | ⟨y,u,rfl,e⟩
   ·exact nomatch e
   ·injection e with e1 _;rw [e1]
 byValue:=fun k v h=>by
  rcases cW h with ⟨i,t,rfl,rfl⟩ | ⟨x,t,rfl,rfl⟩ <;> rfl
 pyHash:=fun hv h=>by
  rcases cW hv with ⟨i,t,rfl,rfl⟩ | ⟨x,t,rfl,rfl⟩
  ·exact wpAny_pyHash_int h
  ·exact L0 h
 eqBool:=fun hu hv h=>by
  rcases cW hu with ⟨i,t,rfl,rfl⟩ | ⟨x,t,rfl,rfl⟩
  ·rcases cW hv with ⟨j,u,rfl,rfl⟩ | ⟨y,u,rfl,rfl⟩
   ·rw [EK] at h;exact wpAny_eqBool_int h
   ·rw [EM] at h;exact SeqAt.EqAt.int_str i t y u _ _ _ _ h
  ·rcases cW hv with ⟨j,u,rfl,rfl⟩ | ⟨y,u,rfl,rfl⟩
   ·rw [EN] at h;exact SeqAt.EqAt.str_int x t j u _ _ _ _ h
   ·rw [EL] at h;exact wpAny_eqBool_str h
 «strs»:=fun k x t v h=>by
  rcases cW h with ⟨i,u,rfl,e⟩ | ⟨y,u,rfl,e⟩
  ·exact nomatch e
  ·injection e with e1 _
   subst e1
   cases v <;> rfl
theorem oR (prog:Program)(w:World)(i:Int)(t:Tok):(aT prog w).is (.inl i) (.int i t)=true:=zv i t
theorem oU (prog:Program)(w:World)(x:Str)(t:Tok):(aT prog w).is (.inr x) (.str x t)=true:=zw x t
inductive V where
 | bg | bl (b:Bool) | int (i:Int) | str (x:Str) | jA (b:Array UInt8) | zx (b:UInt64) | ref (a:Addr) | ty (n:String)
 deriving DecidableEq
def RelV:V->Value->Prop
 | .bg,u=>u=Value.none
 | .bl b,u=>u=Value.bool b
 | .int i,u=>∃t,u=Value.int i t
 | .str x,u=>∃t,u=Value.str x t
 | .jA b,u=>∃t,u=Value.bytes b t
 | .zx b,u=>∃t,u=Value.float b t
 | .ref a,u=>u=Value.ref a
 | .ty n,u=>u=Value.type n
abbrev Vals:List V->List Value->Prop:=Paired RelV
theorem Vals.length {xs:List V}{us:List Value}(r:Vals xs us):xs.length=us.length:=Paired.length r
theorem Vals.get:∀{xs:List V} {us:List Value} {i:Nat} {x:V},Vals xs us->xs[i]?=some x->∃u,us[i]?=some u/\RelV x u
 | _,_,_,_,.nil,e=>by simp at e
 | _,_,0,_,.cons r _,e=>by simp at e;subst e;exact⟨_,rfl,r⟩
 | _,_,i+1,x,.cons _ t,e=>by
  obtain⟨u,h1,h2⟩:=Vals.get (i:=i) (x:=x) t (by simpa using e)
  exact⟨u,by simpa using h1,h2⟩
theorem Vals.set {x:V}{u:Value}(r:RelV x u):∀{xs:List V} {us:List Value} (i:Nat),Vals xs us->Vals (xs.set i x) (us.set i u)
 | _,_,_,.nil=>.nil
 | _,_,0,.cons _ t=>.cons r t
 | _,_,i+1,.cons q t=>.cons q (Vals.set r i t)
theorem Vals.append:∀{xs ys:List V} {us ws:List Value},Vals xs us->Vals ys ws->Vals (xs++ys) (us++ws)
 | _,_,_,_,.nil,s=>s
 | _,_,_,_,.cons r t,s=>.cons r (Vals.append t s)
theorem Vals.take:∀{xs:List V} {us:List Value} (n:Nat),Vals xs us->Vals (xs.take n) (us.take n)
 | _,_,0,_=>.nil
 | _,_,_+1,.nil=>.nil
 | _,_,n+1,.cons r t=>.cons r (Vals.take n t)
theorem Vals.drop:∀{xs:List V} {us:List Value} (n:Nat),Vals xs us->Vals (xs.drop n) (us.drop n)
 | _,_,0,r=>r
 | _,_,_+1,.nil=>.nil
 | _,_,n+1,.cons _ t=>Vals.drop n t
def fm:Option V->Option Value->Prop
 | some v,some u=>RelV v u
 | none,none=>True
 | _,_=>False
def KV {κ : Type}:List (κ×V)->List (κ×Value)->Prop:=Paired fun (p:κ×V) (q:κ×Value)=>p.1=q.1/\RelV p.2 q.2
def kV:Key->V
 | .inl i=>.int i
 | .inr x=>.str x
inductive HO where
 | lst (xs:List V)
 | tup (xs:List V)
 | dK (kvs:List (Key×V)) | dT (kvs:List (List Key×V))
 | set (S:Int->Bool) (n:Nat)
 | ins (C dx:Addr) (fs:List (Str×V))
 | own (x:Addr)
 | xd (fs:List (Str×V))
 | met (f x:Addr)
 | CW (lo hi:Int)
 | mL (o:Obj) (u:HO)
 | tI (ps:Array Value)
 | ext (φ : Heap->Prop)
abbrev Hp:=Addr->Option HO
def upd (H:Hp)(a:Addr)(o:HO):Hp:=fun b=>if b=a then some o else H b
theorem aa {H:Hp}{a:Addr}{o:HO}:upd H a o a=some o:=by unfold upd;rw [if_pos rfl]
theorem ao {H:Hp}{a b:Addr}{o:HO}(h:b≠a):upd H a o b=H b:=by unfold upd;rw [if_neg h]
theorem iz {H:Hp}{a:Addr}{o u:HO}:upd (upd H a o) a u=upd H a u:=by
 funext b;unfold upd;split <;> rfl
theorem bU {H:Hp}{a b:Addr}{o u:HO}(h:H a=some o)(h':H b=some u)(d:o≠u):a≠b:=by
 intro e;subst e;rw [h] at h';exact d (IU.inj h')
theorem ar {H:Hp}{a b:Addr}{o:HO}(h:H a=some o)(h':H b=none):a≠b:=by
 intro e;subst e;rw [h] at h';cases h'
section
variable (P:Program)(w:World)
def bN (H:Hp)(h:Heap)(a:Addr):HO->Prop
 | .lst xs=>xs.length<=sizeLine/\∃(its:List Value) (n:Nat),Vals xs its/\h.get? a=some { cls:=.type "list",data:=.seq its.toArray n }
 | .tup xs=>xs.length<=sizeLine/\∃its:List Value,Vals xs its/\∃o,h.get? a=some o/\o.cls=.type "tuple" /\ ∃n,o.data=.seq its.toArray n/\o.dict=none
 | .dK kvs=>kvs.length<=sizeLine/\(a == sysModules)=false/\∃vs,KV kvs vs/\h.DictOf (aT P w) a vs
 | .dT kvs=>kvs.length<=sizeLine/\(a == sysModules)=false/\∃xs:List (List Key×Addr×Value),
   Paired (fun (p:List Key×V) (q:List Key×Addr×Value)=>p.1=q.1/\H q.2.1=some (.tup (p.1.map kV))/\RelV p.2 q.2.2) kvs xs /\
   ∃o es ep,h.get? a=some o/\o.ExactDict/\o.data=.dict es ep/\es.toList=xs.map (entryOfKey (tupleKind (aT P w)))/\(xs.map (·.1)).Nodup
 | .set S n=>h.SetOf (intKind P w) a S n
 | .ins C dx fs=>H dx=some (.own a)/\fs.length<=1000/\dx≠a/\h.get? a=some (JO C dx) /\
   ∃mA,h.Ns1 dx mA/\(∀f,fm (fs.lookup f) (mA f))/\PySem.Within mA (fs.map (·.1))
 | .own _=>∃o,h.get? a=some o
 | .xd fs=>∃mA,h.Ns1 a mA/\∀f,fm (fs.lookup f) (mA f)
 | .CW lo hi=>∃t u v,h.get? a=some { cls:=.type "range",data:=.fields #[.int lo t,.int hi u,.int 1 v] }
 | .mL o u=>h.get? a=some o/\bN H h a u
 | .tI ps=>h.get? a=some { cls:=.none,data:=.fields ps }
 | .met f x=>h.get? a=some (La (.ref f) (.ref x))
 | .ext φ=>φ h/\(∃o,h.get? a=some o)/\∀h1 h2:Heap,φ h1->(∀o,h1.get? a=some o->h2.get? a=some o)->φ h2
def di (H:Hp)(h:Heap):Prop:=∀a o,H a=some o->bN P w H h a o
end
section
variable {P:Program}{w:World}{H H':Hp}{h h':Heap}{a:Addr}{o:HO}
theorem bN.lt (x:bN P w H h a o):a<h.objs.size:=by
 cases o with
 | lst xs=>obtain⟨_,_,_,_,e⟩:=x;exact IG e
 | tup xs=>obtain⟨_,_,_,p⟩:=x;exact (let ⟨o,e,_⟩:=p;IG e)
 | dK kvs=>obtain⟨_,_,_,_,o,_,_,e,_⟩:=x;exact IG e
 | dT kvs=>obtain⟨_,_,_,_,o,_,_,e,_⟩:=x;exact IG e
 | set S n=>obtain⟨o,_,_,_,e,_⟩:=x;exact IG e
 | ins C dx fs=>obtain⟨_,_,_,e,_⟩:=x;exact IG e
 | own y=>obtain⟨_,e⟩:=x;exact IG e
 | xd fs=>obtain⟨_,⟨_,_,_,e,_⟩,_⟩:=x;exact IG e
 | CW lo hi=>obtain⟨_,_,_,e⟩:=x;exact IG e
 | mL ob u=>obtain⟨e,_⟩:=x;exact IG e
 | tI ps=>exact IG (show h.get? a=some _ from x)
 | met f y=>exact IG (show h.get? a=some _ from x)
 | ext φ=>obtain⟨_,⟨_,e⟩,_⟩:=x;exact IG e
theorem Paired.Bc {α β : Type}{F G:α->β->Prop}:∀{l₁ : List α} {l₂ : List β},Paired F l₁ l₂->(∀a b,F a b->G a b)->Paired G l₁ l₂
 | _,_,.nil,_=>.nil
 | _,_,.cons r t,f=>.cons (f _ _ r) (Paired.Bc t f)
theorem bN.lh (x:bN P w H h a o)(k:∀b u,(b=a\/H b=some (.own a))->h.get? b=some u->h'.get? b=some u)
  (ho:∀b,H b=some (.own a)->H' b=some (.own a)) (ht:∀b xs,H b=some (.tup xs)->H' b=some (.tup xs)):bN P w H' h' a o:=by
 induction o with
 | lst xs=>obtain⟨z,its,n,r,e⟩:=x;exact⟨z,its,n,r,k _ _ (.inl rfl) e⟩
 | tup xs=>obtain⟨z,its,r,ob,e,c⟩:=x;exact⟨z,its,r,ob,k _ _ (.inl rfl) e,c⟩
 | dK kvs=>obtain⟨z,y,vs,r,ob,es,ep,e,c⟩:=x;exact⟨z,y,vs,r,ob,es,ep,k _ _ (.inl rfl) e,c⟩
 | dT kvs =>
  obtain⟨z,y,xs,r,ob,es,ep,e,c⟩:=x
  exact⟨z,y,xs,Paired.Bc r fun p q z=>⟨z.1,ht _ _ z.2.1,z.2.2⟩,ob,es,ep,k _ _ (.inl rfl) e,c⟩
 | set S n=>obtain⟨ob,es,ep,t,e,c⟩:=x;exact⟨ob,es,ep,t,k _ _ (.inl rfl) e,c⟩
 | ins C dx fs =>
  obtain⟨d,z,ne,e,mA,⟨od,es,ep,e2,c⟩,r⟩:=x
  exact⟨ho _ d,z,ne,k _ _ (.inl rfl) e,mA,⟨od,es,ep,k _ _ (.inr d) e2,c⟩,r⟩
 | own y=>obtain⟨ob,e⟩:=x;exact⟨ob,k _ _ (.inl rfl) e⟩
 | xd fs=>obtain⟨mA,⟨od,es,ep,e,c⟩,r⟩:=x;exact⟨mA,⟨od,es,ep,k _ _ (.inl rfl) e,c⟩,r⟩
 | CW lo hi=>obtain⟨t,u,v,e⟩:=x;exact⟨t,u,v,k _ _ (.inl rfl) e⟩
 | mL ob u ih=>obtain⟨e,q⟩:=x;exact⟨k _ _ (.inl rfl) e,ih q⟩
 | tI ps =>
  have e:h.get? a=some { cls:=.none,data:=.fields ps }:=x
  show h'.get? a=some { cls:=.none,data:=.fields ps }
  exact k a _ (.inl rfl) e
 | met f y =>
  have e:h.get? a=some (La (.ref f) (.ref y)):=x
  show h'.get? a=some (La (.ref f) (.ref y))
  exact k a _ (.inl rfl) e
 | ext φ=>obtain⟨p,⟨o,e⟩,st⟩:=x;exact⟨st _ _ p fun o q=>k _ _ (.inl rfl) q,⟨o,k _ _ (.inl rfl) e⟩,st⟩
theorem di.lt (x:di P w H h)(e:H a=some o):a<h.objs.size:=(x a o e).lt
theorem di.fresh (x:di P w H h)(e:h.objs.size<=a):H a=none:=by
 cases q:H a with
 | none=>rfl
 | some u=>exact absurd (Ji (x.lt q) e) (Jd _)
theorem di.kept (x:di P w H h)(k:∀b u,h.get? b=some u->h'.get? b=some u):di P w H h':=fun a o e =>
 (x a o e).lh (fun b u _ q=>k b u q) (fun _ q=>q) fun _ _ q=>q
theorem di.laid (x:di P w H h)(k:∀b u,h.get? b=some u->h'.get? b=some u)(hp:h.objs.size<=a)(new:bN P w (upd H a o) h' a o):di P w (upd H a o) h':=fun b u e=>by
 have hn:=x.fresh hp
 by_cases hb:b=a
 ·subst hb;rw [aa] at e;cases e;exact new
 ·rw [ao hb] at e
  exact (x b u e).lh (fun c v _ q=>k c v q) (fun c q=>by rw [ao (ar q hn)];exact q) fun c xs q=>by rw [ao (ar q hn)];exact q
end
def Rd (H:Hp)(a:Addr)(u:HO):Prop:=H a=some u\/∃o,H a=some (.mL o u)
theorem Rd.ok {P:Program}{w:World}{H:Hp}{h:Heap}{a:Addr}{u:HO}(r:Rd H a u)(x:di P w H h):bN P w H h a u:=by
 rcases r with r | ⟨o,r⟩
 ·exact x a u r
 ·obtain⟨_,q⟩:=x a _ r
  exact q
def zy:Option HO->Prop
 | some (.lst _)=>True
 | some (.dK _)=>True
 | some (.dT _)=>True
 | some (.set _ _)=>True
 | some (.ins _ _ _)=>True
 | some (.ext _)=>True
 | _=>False
section
variable {P:Program}{w:World}{H:Hp}{h h':Heap}{x e:Addr}{o':HO}
theorem di.write (ok:di P w H h)(mu:zy (H x))(he:e=x\/H e=some (.own x))(k:∀b u,b≠e->h.get? b=some u->h'.get? b=some u)(heo:∃u,h'.get? e=some u)
  (new:bN P w (upd H x o') h' x o'):di P w (upd H x o') h':=fun b u q=>by
 have nown:∀c y,H c=some (.own y)->c≠x:=fun c y r z=>by subst z;rw [r] at mu;exact mu
 have ntup:∀c xs,H c=some (.tup xs)->c≠x:=fun c xs r z=>by subst z;rw [r] at mu;exact mu
 by_cases hb:b=x
 ·subst hb;rw [aa] at q;cases q;exact new
 ·rw [ao hb] at q
  by_cases hbe:b=e
  ·have q':H b=some (.own x):=by
    rcases he with z | z
    ·exact absurd (hbe.trans z) hb
    ·rw [hbe];exact z
   rw [q] at q';cases q'
   obtain⟨v,hv⟩:=heo
   exact⟨v,by rw [hbe];exact hv⟩
  ·refine (ok b u q).lh (fun c v hc r=>k c v ?_ r) (fun c r=>by rw [ao (nown c b r)];exact r) fun c xs r=>by rw [ao (ntup c xs r)];exact r
   rcases hc with rfl | hc
   ·exact hbe
   ·rintro rfl
    rcases he with z | z
    ·exact nown c b hc z
    ·rw [hc] at z;cases z;exact hb rfl
end
structure Un (fs ex:List Addr) (H H':Hp) (h h':Heap):Prop where
 keep:∀b o,h.get? b=some o->H b=none->b∉fs->b∉ex->h'.get? b=some o
 slot:∀b o,h.get? b=some o->H b=none->b∈fs->b∉ex->∃sl,h'.get? b=some { o with slots:=sl }
 free:∀b o,h.get? b=some o->H b=none->b∉ex->H' b=none
 there:∀b o,h.get? b=some o->b∉ex->∃o',h'.get? b=some o'
 av:∀b xs,H b=some (.tup xs)->H' b=some (.tup xs)
 gH:∀b o u,H b=some (.mL o u)->H' b=some (.mL o u)
 hR:∀b ps,H b=some (.tI ps)->∃more,H' b=some (.tI (ps++more))
section
variable {fs fs' ex ex':List Addr}{H H1 H2:Hp}{h h1 h2 h':Heap}{a x e:Addr}{o:HO}
theorem Un.any (u:Un fs ex H H1 h h1){b:Addr}{ob:Obj}(q:h.get? b=some ob)(n:H b=none)(hx:b∉ex):∃sl,h1.get? b=some { ob with slots:=sl }:=by
 by_cases hb:b∈fs
 ·exact u.slot b ob q n hb hx
 ·exact⟨ob.slots,u.keep b ob q n hb hx⟩
theorem Un.kept (k:∀b u,h.get? b=some u->h'.get? b=some u):Un fs ex H H h h' :=
 ⟨fun b ob q _ _ _=>k b ob q,fun b ob q _ _ _=>⟨ob.slots,k b ob q⟩,fun _ _ _ n _=>n,fun b ob q _=>⟨ob,k b ob q⟩,fun _ _ q=>q,fun _ _ _ q=>q,fun _ ps q=>⟨#[],by rw [q];simp⟩⟩
theorem Un.refl:Un fs ex H H h h:=Un.kept fun _ _ q=>q
theorem Un.laid (k:∀b u,h.get? b=some u->h'.get? b=some u)(hp:h.objs.size<=a)(hn:H a=none):Un fs ex H (upd H a o) h h' where
 keep:=fun b u q _ _ _=>k b u q
 slot:=fun b u q _ _ _=>⟨u.slots,k b u q⟩
 free:=fun b u q n _=>by rw [ao (IL (Ji (IG q) hp))];exact n
 there:=fun b u q _=>⟨u,k b u q⟩
 av:=fun b xs q=>by rw [ao (ar q hn)];exact q
 gH:=fun b u xs q=>by rw [ao (ar q hn)];exact q
 hR:=fun b ps q=>⟨#[],by rw [ao (ar q hn),q];simp⟩
theorem Un.write (mu:zy (H x))(he:e=x\/H e=some (.own x))(k:∀b u,b≠e->h.get? b=some u->h'.get? b=some u)(heo:∃u,h'.get? e=some u):Un fs ex H (upd H x o) h h':=by
  have hx:∀b,H b=none->b≠x:=fun b n z=>by subst z;rw [n] at mu;exact mu
  have hb:∀b,H b=none->b≠e:=fun b n z=>by
    subst z
    rcases he with r | r
    . exact hx b n r
    . rw [n] at r;cases r
  have hm:∀b u,H b=some u->¬zy (some u)->b≠x:=fun b u q nm z=>by subst z;rw [q] at mu;exact nm mu
  refine⟨fun b u q n _ _=>k b u (hb b n) q,fun b u q n _ _=>⟨u.slots,k b u (hb b n) q⟩,fun b u q n _=>by rw [ao (hx b n)];exact n,fun b u q _=>?_,
    fun b xs q=>by rw [ao (hm b _ q fun z=>z)];exact q,fun b u xs q=>by rw [ao (hm b _ q fun z=>z)];exact q,fun b ps q=>⟨#[],by rw [ao (hm b _ q fun z=>z),q];simp⟩⟩
  by_cases hbe:b=e
  . subst hbe;exact heo
  . exact⟨u,k b u hbe q⟩
end
def CY (h:Heap)(H:Hp):List Addr:=(Js h.objs.size).filter fun a=>(H a).isSome
def lj (h:Heap)(H:Hp):Heap:=PySem.W.hideAll h (CY h H)
theorem zz (h:Heap)(H:Hp):(lj h H).objs.size=h.objs.size:=PySem.W.hideAll_size _ _
theorem Bd {h:Heap}{H:Hp}{b:Addr}{o:Obj}(e:h.get? b=some o)(n:H b=none):(lj h H).get? b=some o :=
 PySem.W.hideAll_get _ e fun hm=>by
  have q:(H b).isSome=true:=(JU.mp hm).2
  rw [n] at q;simp at q
theorem Dv {h:Heap}{H:Hp}{b:Addr}{o:Obj}(e:(lj h H).get? b=some o):h.get? b=some o/\H b=none:=by
 have e':h.get? b=some o:=PySem.W.of_hideAll (CY h H) e
 refine⟨e',?_⟩
 cases q:H b with
 | none=>rfl
 | some x =>
  have hm:b∈CY h H:=JU.mpr ⟨JV.mpr (IG e'),by simp [q]⟩
  have z:(lj h H).get? b=none:=PySem.W.hideAll_none (CY h H) hm
  rw [z] at e;cases e
def Dw (g h:Heap)(L:Addr):List (Addr×Obj):=(Js h.objs.size).filterMap fun a=>if a=L\/(g.get? a).isSome=true then none else (h.get? a).map fun o=>(a,o)
def rest (g h:Heap)(L d:Addr):List (Addr×Obj):=(Dw g h L).filter fun p=>decide (p.1≠d)
structure Mod (K:IC) (mg:Str->Option Value) (base:Heap):Prop where
 jX:K.In base
 glob:base.Ns mainGlobals mg
 blt:∃mb,base.Ns builtinsNs mb/\∀x:Str,x ≠ "__name__" -> mb x=bootBuiltins x
 nolimit:base.NoLimit
structure Cx where
 prog:Program
 w:World
 K:IC
 mg:Str->Option Value
 base:Heap
 A:Around
 N:List Str
 dE:Shared
 u9:Hp
 env:Env
 outer:List Env
 stack:List Env
 ex:List Addr
 fn:Str->Bool
 calm:Bool
 pn:List (Addr×Obj)
 xe:Value->Shared->Prop
def cA (l:List Env):List Addr:=l.filterMap (·.frame)
abbrev Cx.fs (X:Cx):List Addr:=cA X.outer
def EO (sc:Scope)(x:Str):Prop:=sc.names.lookup x=some .local\/sc.names.lookup x=some .cell\/sc.names.lookup x=some .free
def Loc (sc:Scope)(x:Str):Prop:=sc.names.lookup x=some .local\/sc.names.lookup x=some .cell
def Look (env:Env)(h:Heap)(m:Str->Option Value)(x:Str)(u:Value):Prop :=
 (env.kindOf x=some .local/\m x=some u)\/((env.kindOf x=some .cell\/env.kindOf x=some .free)/\∃c,env.cells.lookup x=some c/\h.IsCell c (some u))
structure Cx.Ok (X:Cx):Prop where
 mod:Mod X.K X.mg X.base
 kind:X.env.scope.kind=.function
 glob:X.env.globals=mainGlobals
 blt:X.env.builtins=builtinsNs
 above:X.dE.heap.objs.size<=X.env.locals
 inj:∀x y c,X.env.cells.lookup x=some c->X.env.cells.lookup y=some c->x=y
 has:∀x,(X.env.kindOf x=some .cell\/X.env.kindOf x=some .free)->∃c,X.env.cells.lookup x=some c
 tJ:∀x c,X.fn x=true->X.env.cells.lookup x=some c->X.dE.heap.objs.size<=c
 hd:X.calm=true->X.A.handled=none
 frames:X.A.frames=some X.stack
 va:X.stack=X.outer\/(X.stack=X.env::X.outer/\X.env.frame=some X.env.locals)
 zA:∀b∈X.ex,b≠X.env.locals/\∀x c,X.env.cells.lookup x=some c->c≠b
 bs:∀b o,X.base.get? b=some o->X.dE.heap.get? b=some o/\X.u9 b=none
 my:X.base.objs.size<=X.dE.heap.objs.size
 mO:∀b o,X.base.get? b=some o->b∉X.ex
 pI:∀b∈X.ex,b∉X.fs
 gI:X.dE.heap.FunFrames X.base X.outer
 oV:∀b∈X.fs,X.u9 b=none
structure Inv (X:Cx) (pins:List (Addr×Obj)) (IA : List (Option V)) (H:Hp) (s:Shared):Prop where
 ok:X.Ok
 os:s.os=X.dE.os
 bare:AllBare s.gens
 base:Un X.fs X.ex X.u9 H X.dE.heap s.heap
 loc:∃m,s.heap.Ns X.env.locals m/\∀(i:Nat) (x:Str) (v:V),X.N[i]?=some x->IA[i]?=some (some v)->EO X.env.scope x->∃u,RelV v u/\Look X.env s.heap m x u
 cell:∀x c,X.env.cells.lookup x=some c->∃v,s.heap.IsCell c v
 free:H X.env.locals=none
 dH:∀x c,X.env.cells.lookup x=some c->H c=none
 pin:∀p∈X.pn++pins,s.heap.get? p.1=some p.2/\H p.1=none/\p.1≠X.env.locals/\p.1∉X.fs/\∀v,p.2.data≠.cell v
 aN:di X.prog X.w H s.heap
 len:IA.length=X.N.length
section
variable {X:Cx}{pins:List (Addr×Obj)}{IA : List (Option V)}{H H':Hp}{s:Shared}{h':Heap}
theorem Cx.Ok.Hd (ok:X.Ok){b:Addr}{o:Obj}(e:X.base.get? b=some o):b∉X.fs:=fun hb=>by
 have:=(ok.gI.mem hb).1
 rw [e] at this;cases this
theorem Inv.bs (I:Inv X pins IA H s):∀b o,X.base.get? b=some o->s.heap.get? b=some o/\H b=none:=fun b o e =>
 ⟨I.base.keep b o (I.ok.bs b o e).1 (I.ok.bs b o e).2 (I.ok.Hd e) (I.ok.mO b o e),I.base.free b o (I.ok.bs b o e).1 (I.ok.bs b o e).2 (I.ok.mO b o e)⟩
theorem Inv.bk (I:Inv X pins IA H s):∀b o,X.base.get? b=some o->s.heap.get? b=some o:=fun b o e=>(I.bs b o e).1
theorem Inv.mod (I:Inv X pins IA H s):Mod X.K X.mg X.base:=I.ok.mod
theorem Inv.fY (I:Inv X pins IA H s):X.K.In s.heap:=I.ok.mod.jX.keeps I.bk
theorem Inv.lt (I:Inv X pins IA H s):X.env.locals<s.heap.objs.size:=let ⟨_,hn,_⟩:=I.loc;hn.lt
theorem Inv.sz (I:Inv X pins IA H s):X.dE.heap.objs.size<=s.heap.objs.size:=IQ I.ok.above (Jo I.lt)
theorem Inv.He (I:Inv X pins IA H s){a:Addr}(h:s.heap.objs.size<=a):a∉X.fs:=fun hb=>by
 obtain⟨_,o,ho,_⟩:=I.ok.gI.mem hb
 exact absurd (Ji (IG ho) (IQ I.sz h)) (Jd _)
theorem Inv.qp (I:Inv X pins IA H s):∀x c,X.env.cells.lookup x=some c->c≠X.env.locals:=fun x c e z=>by
 obtain⟨v,o,ho,hd⟩:=I.cell x c e
 obtain⟨m,⟨o',es,ep,ho',hd',_⟩,_⟩:=I.loc
 rw [z,ho'] at ho;cases ho;rw [hd'] at hd;cases hd
theorem Inv.gI (I:Inv X pins IA H s):s.heap.FunFrames X.base X.outer:=by
 have all:∀(l:List Env),(∀b∈cA l,b∈X.fs)->X.dE.heap.FunFrames X.base l->s.heap.FunFrames X.base l:=by
  intro l
  induction l with
  | nil=>intro _ _;trivial
  | cons env r ih =>
   intro hs hl
   obtain⟨hk,⟨L,o,hf,hn,ho,hd⟩,hr⟩:=hl
   have hL:L∈X.fs:=hs L (by unfold cA;rw [JW,hf];exact IP)
   obtain⟨sl,e⟩:=I.base.slot L o ho (I.ok.oV L hL) hL fun z=>I.ok.pI L z hL
   exact⟨hk,⟨L,_,hf,hn,e,hd⟩,ih (fun b hb=>hs b (by unfold cA;rw [JW,hf];exact IM _ hb)) hr⟩
 exact all X.outer (fun _ hb=>hb) I.ok.gI
theorem Inv.stack (I:Inv X pins IA H s):s.heap.FunFrames X.base X.stack:=by
 rcases I.ok.va with e | ⟨e,hf⟩
 ·rw [e];exact I.gI
 ·rw [e]
  obtain⟨m,hn,_⟩:=I.loc
  refine .cons (by rw [I.ok.kind];decide) hf hn ?_ I.gI
  exact Lb (IQ I.ok.my I.ok.above)
theorem Inv.qq (I:Inv X pins IA H s):∀b∈cA X.stack,b∈X.env.locals::X.fs:=fun b hb=>by
 rcases I.ok.va with e | ⟨e,hf⟩
 ·rw [e] at hb;exact IM _ hb
 ·rw [e] at hb
  unfold cA at hb
  rw [JW,hf] at hb
  exact hb
theorem Inv.ky (I:Inv X pins IA H s):∀b∈cA X.stack,H b=none:=fun b hb=>by
 rcases IE.mp (I.qq b hb) with e | hb
 ·rw [e];exact I.free
 ·obtain⟨_,o,ho,_⟩:=I.ok.gI.mem hb
  exact I.base.free b o ho (I.ok.oV b hb) fun z=>I.ok.pI b z hb
theorem Inv.step {g':Array GenState}{t':Nat}{d':Drawn}{ch:List Addr}(I:Inv X pins IA H s)
  (hch:∀b∈ch,(b∈X.ex\/X.dE.heap.objs.size<=b)/\b≠X.env.locals/\(∀x c,X.env.cells.lookup x=some c->c≠b)/\∀p∈X.pn++pins,p.1≠b)
  (keep:∀b o,b≠X.env.locals->b∉X.fs->b∉ch->s.heap.get? b=some o->H b=none->h'.get? b=some o)
  (slot:∀b o,b≠X.env.locals->b∈X.fs->b∉ch->s.heap.get? b=some o->H b=none->∃sl,h'.get? b=some { o with slots:=sl }) (free:∀b o,b∉ch->s.heap.get? b=some o->H b=none->H' b=none)
  (there:∀b o,b∉ch->s.heap.get? b=some o->∃o',h'.get? b=some o')
  (av:∀b xs,H b=some (.tup xs)->H' b=some (.tup xs)) (gH:∀b o u,H b=some (.mL o u)->H' b=some (.mL o u)) (hR:∀b ps,H b=some (.tI ps)->∃more,H' b=some (.tI (ps++more)))
  (ns:∀m,s.heap.Ns X.env.locals m->h'.Ns X.env.locals m) (aN:di X.prog X.w H' h') (hg:AllBare g') :
  Inv X pins IA H' { s with heap:=h',gens:=g',drawn:=d',toks:=t' }:=by
 have neL:∀b o,X.dE.heap.get? b=some o->b≠X.env.locals:=fun b o e=>IL (Ji (IG e) I.ok.above)
 have neC:∀b o,X.dE.heap.get? b=some o->b∉X.ex->b∉ch:=fun b o e hx hb=>by
  rcases (hch b hb).1 with z | z
  ·exact hx z
  ·exact absurd (Ji (IG e) z) (Jd _)
 have cellK:∀x c,X.env.cells.lookup x=some c->∀v,s.heap.IsCell c v->h'.IsCell c v:=fun x c e v ⟨o,ho,hd⟩=>by
  have nch:c∉ch:=fun z=>(hch c z).2.2.1 x c e rfl
  by_cases hc:c∈X.fs
  ·obtain⟨sl,q⟩:=slot c o (I.qp x c e) hc nch ho (I.dH x c e)
   exact⟨_,q,hd⟩
  ·exact⟨o,keep c o (I.qp x c e) hc nch ho (I.dH x c e),hd⟩
 refine⟨I.ok,I.os,hg,⟨fun b o e n hb hx=>?_,fun b o e n hb hx=>?_,fun b o e n hx=>?_,fun b o e hx=>?_,fun b xs e=>av b xs (I.base.av b xs e),fun b o xs e=>gH b o xs (I.base.gH b o xs e),fun b ps e=>?_⟩,?_,fun x c e=>?_,?_,fun x c e=>?_,fun p hp=>?_,aN,I.len⟩
 ·exact keep b o (neL b o e) hb (neC b o e hx) (I.base.keep b o e n hb hx) (I.base.free b o e n hx)
 ·obtain⟨sl,e1⟩:=I.base.slot b o e n hb hx
  obtain⟨sl',e2⟩:=slot b _ (neL b o e) hb (neC b o e hx) e1 (I.base.free b o e n hx)
  exact⟨sl',e2⟩
 ·obtain⟨o',e1⟩:=I.base.there b o e hx
  exact free b o' (neC b o e hx) e1 (I.base.free b o e n hx)
 ·obtain⟨o',e1⟩:=I.base.there b o e hx
  exact there b o' (neC b o e hx) e1
 ·obtain⟨m1,e1⟩:=I.base.hR b ps e
  obtain⟨m2,e2⟩:=hR b _ e1
  exact⟨m1++m2,by rw [e2,Array.append_assoc]⟩
 ·obtain⟨m,hn,hl⟩:=I.loc
  refine⟨m,ns m hn,fun i x v e1 e2 e3=>?_⟩
  obtain⟨u,r,l⟩:=hl i x v e1 e2 e3
  refine⟨u,r,?_⟩
  rcases l with l | ⟨k,c,e,z⟩
  ·exact .inl l
  ·exact .inr ⟨k,c,e,cellK x c e _ z⟩
 ·obtain⟨v,z⟩:=I.cell x c e
  exact⟨v,cellK x c e v z⟩
 ·obtain⟨m,⟨o,_,_,ho,_⟩,_⟩:=I.loc
  exact free _ o (fun z=>(hch _ z).2.1 rfl) ho I.free
 ·obtain⟨v,o,ho,hd⟩:=I.cell x c e
  exact free c o (fun z=>(hch c z).2.2.1 x c e rfl) ho (I.dH x c e)
 ·obtain⟨e,n,ne,nf,d⟩:=I.pin p hp
  have nch:p.1∉ch:=fun z=>(hch p.1 z).2.2.2 p hp rfl
  exact⟨keep p.1 p.2 ne nf nch e n,free p.1 p.2 nch e n,ne,nf,d⟩
theorem Inv.un {t':Nat}(I:Inv X pins IA H s)(u:Un X.fs [] H H' s.heap h')(aN:di X.prog X.w H' h'):Inv X pins IA H' { s with heap:=h',toks:=t' }:=by
  obtain⟨m,⟨o,es,ep,ho,r⟩,_⟩:=id I.loc
  obtain⟨sl,hL⟩:=u.any ho I.free (by simp)
  exact I.step (g':=s.gens) (d':=s.drawn) (ch:=[]) (fun _ z=>nomatch z) (fun b o _ hb _ e n=>u.keep b o e n hb (by simp)) (fun b o _ hb _ e n=>u.slot b o e n hb (by simp)) (fun b o _ e n=>u.free b o e n (by simp)) (fun b o _ e=>u.there b o e (by simp)) u.av u.gH u.hR (fun m' hm=>by
    obtain⟨o',es',ep',ho',r'⟩:=hm
    rw [ho] at ho';cases ho'
    exact⟨_,es',ep',hL,r'⟩) aN I.bare
theorem Inv.call {g':Array GenState}{t':Nat}{d':Drawn}{ch:List Addr}(I:Inv X pins IA H s)(u:Un (cA X.stack) ch H H' s.heap h')(aN:di X.prog X.w H' h')(hg:AllBare g')
  (hch:∀b∈ch,(b∈X.ex\/X.dE.heap.objs.size<=b)/\b≠X.env.locals/\(∀x c,X.env.cells.lookup x=some c->c≠b)/\∀p∈X.pn++pins,p.1≠b) :
  Inv X pins IA H' { s with heap:=h',gens:=g',drawn:=d',toks:=t' }:=by
 obtain⟨m,⟨o,es,ep,ho,r⟩,_⟩:=id I.loc
 obtain⟨sl,hL⟩:=u.any ho I.free fun z=>(hch _ z).2.1 rfl
 exact I.step (ch:=ch) hch (fun b o hL hb hc e n=>u.keep b o e n (fun z=>(IE.mp (I.qq b z)).elim hL hb) hc) (fun b o _ _ hc e n=>u.any e n hc) (fun b o hc e n=>u.free b o e n hc) (fun b o hc e=>u.there b o e hc) u.av u.gH u.hR (fun m' hm=>by
  obtain⟨o',es',ep',ho',r'⟩:=hm
  rw [ho] at ho';cases ho'
  exact⟨_,es',ep',hL,r'⟩) aN hg
theorem Inv.turned {t':Nat}{it:Addr}(I:Inv X pins IA H s)(k:∀b o,b≠it->s.heap.get? b=some o->h'.get? b=some o)(hn:H it=none)(hL:it≠X.env.locals)
  (h1:it∈X.ex\/X.dE.heap.objs.size<=it) (h2:∀x c,X.env.cells.lookup x=some c->c≠it) (h3:∀p∈X.pn++pins,p.1≠it):Inv X pins IA H { s with heap:=h',toks:=t' }:=by
 have nit:∀b u,H b=some u->b≠it:=fun b u e z=>by rw [z,hn] at e;cases e
 refine I.step (g':=s.gens) (d':=s.drawn) (ch:=[it]) (fun b hb=>?_) (fun b o _ _ hc e _=>k b o (fun z=>hc (by simp [z])) e) (fun b o _ _ hc e _=>⟨o.slots,k b o (fun z=>hc (by simp [z])) e⟩) (fun _ _ _ _ n=>n)
  (fun b o hc e=>⟨o,k b o (fun z=>hc (by simp [z])) e⟩) (fun _ _ e=>e) (fun _ _ _ e=>e) (fun b ps e=>⟨#[],by rw [e];simp⟩) (fun m hm=>?_) (fun b u e=>?_) I.bare
 ·have e:b=it:=by simpa using hb
  subst e
  exact⟨h1,hL,h2,h3⟩
 ·obtain⟨o,es,ep,ho,r⟩:=hm
  exact⟨o,es,ep,k _ o (Ne.symm hL) ho,r⟩
 ·refine (I.aN b u e).lh (fun c v hc q=>k c v ?_ q) (fun _ q=>q) fun _ _ q=>q
  rcases hc with z | z
  ·rw [z];exact nit b u e
  ·exact nit c _ z
theorem Inv.tok (I:Inv X pins IA H s)(t:Nat):Inv X pins IA H { s with toks:=t }:=I.un (h':=s.heap) (t':=t) Un.refl I.aN
theorem Inv.kept {t':Nat}(I:Inv X pins IA H s)(k:∀b u,s.heap.get? b=some u->h'.get? b=some u):Inv X pins IA H { s with heap:=h',toks:=t' }:=I.un (Un.kept k) (I.aN.kept k)
theorem Inv.laid {a:Addr}{o:HO}{t':Nat}(I:Inv X pins IA H s)(k:∀b u,s.heap.get? b=some u->h'.get? b=some u)(hp:s.heap.objs.size<=a)(new:bN X.prog X.w (upd H a o) h' a o) :
  Inv X pins IA (upd H a o) { s with heap:=h',toks:=t' }:=I.un (Un.laid k hp (I.aN.fresh hp)) (I.aN.laid k hp new)
theorem Inv.write {x e:Addr}{o:HO}{t':Nat}(I:Inv X pins IA H s)(mu:zy (H x))(he:e=x\/H e=some (.own x))(k:∀b u,b≠e->s.heap.get? b=some u->h'.get? b=some u)(heo:∃u,h'.get? e=some u)
  (new:bN X.prog X.w (upd H x o) h' x o):Inv X pins IA (upd H x o) { s with heap:=h',toks:=t' }:=I.un (Un.write mu he k heo) (I.aN.write mu he k heo new)
theorem Inv.weak {σ':List (Option V)}(I:Inv X pins IA H s)(hl:σ'.length = IA.length)(w:∀(i:Nat) v,σ'[i]?=some (some v)->IA[i]?=some (some v)):Inv X pins σ' H s :=
 ⟨I.ok,I.os,I.bare,I.base,let ⟨m,hn,hl'⟩:=I.loc;⟨m,hn,fun i x v e1 e2 e3=>hl' i x v e1 (w i v e2) e3⟩,I.cell,I.free,I.dH,I.pin,I.aN,hl.trans I.len⟩
theorem Inv.xf {pins':List (Addr×Obj)}(I:Inv X pins IA H s)(h:∀p∈pins',s.heap.get? p.1=some p.2/\H p.1=none/\p.1≠X.env.locals/\p.1∉X.fs/\∀v,p.2.data≠.cell v):Inv X pins' IA H s :=
 ⟨I.ok,I.os,I.bare,I.base,I.loc,I.cell,I.free,I.dH,fun p hp=>(IV.mp hp).elim (fun z=>I.pin p (Jz _ z)) (h p),I.aN,I.len⟩
theorem pJ {N:List Str}(hN:N.Nodup){i j:Nat}{x:Str}(a:N[i]?=some x)(b:N[j]?=some x):i=j:=by
 obtain⟨h1,e1⟩:=IY.mp a
 obtain⟨h2,e2⟩:=IY.mp b
 exact (List.getElem_inj hN).mp (e1.trans e2.symm)
theorem tK {M:Model}{A:Around}{E:Value->Shared->Prop}{i:Nat}{x:Str}{v:V}{u:Value}{Q:Unit->Shared->Prop}(I:Inv X pins IA H s)(hN:X.N.Nodup)(hi:X.N[i]?=some x)(hx:Loc X.env.scope x)(r:RelV v u)
  (h:∀s',Inv X pins (IA.set i (some v)) H s'->(∃a,Jk a s.heap s'.heap/\(a=X.env.locals\/X.env.cells.lookup x=some a))->Q () s') (hf:X.fn x=true\/X.env.scope.names.lookup x=some .local:=by first | exact .inl rfl | exact .inr rfl | assumption):wpAny M A (storeName X.env x u) Q E s:=by
 obtain⟨m,hn,hl⟩:=id I.loc
 have hcls:(X.env.scope.kind == .class||(X.env.scope.kind == .module&&X.env.locals != X.env.globals))=false:=by rw [I.ok.kind];rfl
 have hiσ : i<IA.length:=by rw [I.len];exact (IY.mp hi).1
 have qp:=I.qp
 have tracked:∀{a:Addr} {h':Heap},(∃o,s.heap.get? a=some o/\H a=none)->Jk a s.heap h'->di X.prog X.w H h':=fun {a h'} ha hs b ob e=>by
  obtain⟨_,_,hfree⟩:=ha
  refine (I.aN b ob e).lh (fun c w' hc q=>(hs.2 c ?_).trans q) (fun _ q=>q) fun _ _ q=>q
  rintro rfl
  rcases hc with rfl | hc
  ·rw [hfree] at e;cases e
  ·rw [hfree] at hc;cases hc
 rcases hx with hk | hk
 ·refine wpAny_storeName_local hk hn (fun h' hn' hs=>?_) hcls
  obtain⟨oL,_,_,hoL,_⟩:=id hn
  refine h _ ⟨I.ok,I.os,I.bare,⟨fun b o e n hb hx=>?_,fun b o e n hb hx=>?_,I.base.free,fun b o e hx=>?_,I.base.av,I.base.gH,I.base.hR⟩,⟨_,hn',fun j y v' e1 e2 e3=>?_⟩,fun y c e=>?_,I.free,I.dH,fun p hp=>?_,tracked ⟨oL,hoL,I.free⟩ hs,by simpa using I.len⟩ ⟨_,hs,.inl rfl⟩
  ·exact (hs.2 b (IL (Ji (IG e) I.ok.above))).trans (I.base.keep b o e n hb hx)
  ·obtain⟨sl,e1⟩:=I.base.slot b o e n hb hx
   exact⟨sl,(hs.2 b (IL (Ji (IG e) I.ok.above))).trans e1⟩
  ·obtain⟨o',e1⟩:=I.base.there b o e hx
   exact⟨o',(hs.2 b (IL (Ji (IG e) I.ok.above))).trans e1⟩
  ·by_cases hj:j=i
   ·subst hj
    rw [hi] at e1;cases e1
    rw [Ky hiσ] at e2
    cases e2
    exact⟨u,r,.inl ⟨hk,by simp⟩⟩
   ·rw [Lc (Ne.symm hj)] at e2
    obtain⟨u',r',q⟩:=hl j y v' e1 e2 e3
    refine⟨u',r',?_⟩
    rcases q with ⟨k,e⟩ | ⟨k,c,e,z⟩
    ·refine .inl ⟨k,?_⟩
     have:y≠x:=fun e=>hj (pJ hN e1 (e ▸ hi))
     simp [this,e]
    ·exact .inr ⟨k,c,e,z.sameBut hs (qp y c e)⟩
  ·obtain⟨w',z⟩:=I.cell y c e
   exact⟨w',z.sameBut hs (qp y c e)⟩
  ·obtain⟨e,n,ne,nf,d⟩:=I.pin p hp
   exact⟨(hs.2 p.1 ne).trans e,n,ne,nf,d⟩
 ·have hfn:X.fn x=true:=by
   rcases hf with z | z
   ·exact z
   ·rw [z] at hk;cases hk
  obtain⟨c,hc⟩:=I.ok.has x (.inl hk)
  obtain⟨w',z⟩:=I.cell x c hc
  refine wpAny_storeName_cell I.ok.kind hk hc z (fun h' hc' hs=>?_)
  obtain⟨oc,hoc,hocd⟩:=id z
  refine h { s with heap:=h' } ⟨I.ok,I.os,I.bare,⟨fun b o e n hb hx=>?_,fun b o e n hb hx=>?_,I.base.free,fun b o e hx=>?_,I.base.av,I.base.gH,I.base.hR⟩,⟨m,hn.sameBut hs (Ne.symm (qp x c hc)),fun j y v' e1 e2 e3=>?_⟩,fun y c' e=>?_,I.free,I.dH,fun p hp=>?_,tracked ⟨oc,hoc,I.dH x c hc⟩ hs,by simpa using I.len⟩ ⟨c,hs,.inr hc⟩
  ·exact (hs.2 b (IL (Ji (IG e) (I.ok.tJ x c hfn hc)))).trans (I.base.keep b o e n hb hx)
  ·obtain⟨sl,e1⟩:=I.base.slot b o e n hb hx
   exact⟨sl,(hs.2 b (IL (Ji (IG e) (I.ok.tJ x c hfn hc)))).trans e1⟩
  ·obtain⟨o',e1⟩:=I.base.there b o e hx
   exact⟨o',(hs.2 b (IL (Ji (IG e) (I.ok.tJ x c hfn hc)))).trans e1⟩
  ·by_cases hj:j=i
   ·subst hj
    rw [hi] at e1;cases e1
    rw [Ky hiσ] at e2
    cases e2
    exact⟨u,r,.inr ⟨.inl hk,c,hc,hc'⟩⟩
   ·rw [Lc (Ne.symm hj)] at e2
    obtain⟨u',r',q⟩:=hl j y v' e1 e2 e3
    refine⟨u',r',?_⟩
    rcases q with q | ⟨k,c',e,z'⟩
    ·exact .inl q
    ·refine .inr ⟨k,c',e,z'.sameBut hs ?_⟩
     rintro rfl
     exact hj (pJ hN e1 (I.ok.inj _ _ _ e hc ▸ hi))
  ·by_cases hcc:c' = c
   ·subst hcc;exact⟨_,hc'⟩
   ·obtain⟨w2,z2⟩:=I.cell y c' e
    exact⟨w2,z2.sameBut hs hcc⟩
  ·obtain⟨e,n,ne,nf,d⟩:=I.pin p hp
   refine⟨(hs.2 p.1 ?_).trans e,n,ne,nf,d⟩
   intro q
   rw [q,hoc] at e
   have q':oc=p.2:=IU.inj e
   exact d w' (by rw [<-q'];exact hocd)
theorem jB {M:Model}{A:Around}{E:Value->Shared->Prop}{i:Nat}{x:Str}{v:V}{u:Value}{Q:Unit->Shared->Prop}(I:Inv X pins IA H s)(hN:X.N.Nodup)(hi:X.N[i]?=some x)(hx:Loc X.env.scope x)(r:RelV v u)
  (h:∀s',Inv X pins (IA.set i (some v)) H s'->Q () s') (hf:X.fn x=true\/X.env.scope.names.lookup x=some .local:=by first | exact .inl rfl | exact .inr rfl | assumption):wpAny M A (storeName X.env x u) Q E s :=
 tK I hN hi hx r (fun s' I' _=>h s' I') hf
theorem Inv.CZ {s':Shared}{ch:List Addr}(I:Inv X pins IA H s)(ho:s'.os=s.os)(u:Un (cA X.stack) ch H H' s.heap s'.heap)(aN:di X.prog X.w H' s'.heap)(hg:AllBare s'.gens)
  (hch:∀b∈ch,(b∈X.ex\/X.dE.heap.objs.size<=b)/\b≠X.env.locals/\(∀x c,X.env.cells.lookup x=some c->c≠b)/\∀p∈X.pn++pins,p.1≠b):Inv X pins IA H' s':=by
 obtain⟨h',g',d',t',o'⟩:=s'
 have e:o' = s.os:=ho
 subst e
 exact I.call (g':=g') (t':=t') (d':=d') u aN hg hch
end
abbrev XK:=Value->Option Addr->Hp->Prop
abbrev St:=List (Option V)
abbrev VK:=V->Hp->Prop
abbrev TE:=St->Hp->VK->Prop
abbrev TT:=St->Hp->(Bool->Hp->Prop)->Prop
abbrev TA:=St->Hp->(List V->Hp->Prop)->Prop
structure Ends where
 nx:St->Hp->Prop
 rt:VK
 bk:St->Hp->Prop:=fun _ _=>False
 ct:St->Hp->Prop:=fun _ _=>False
abbrev TS:=Ends->St->Hp->Prop
def EP (X:Cx)(pins:List (Addr×Obj))(IA : St)(Q:VK)(u:Value)(s':Shared):Prop:=∃v H',Inv X pins IA H' s'/\RelV v u/\Q v H'
def TP (X:Cx)(pins:List (Addr×Obj))(IA : St)(Q:Bool->Hp->Prop)(b:Bool)(s':Shared):Prop:=∃H',Inv X pins IA H' s'/\Q b H'
def AP (X:Cx)(pins:List (Addr×Obj))(IA : St)(Q:List V->Hp->Prop)(us:List Value)(s':Shared):Prop:=∃vs H',Inv X pins IA H' s'/\Vals vs us/\Q vs H'
def SP (X:Cx)(pins:List (Addr×Obj))(D:Ends)(f:Flow)(s':Shared):Prop :=
 match f with
 | .next=>∃σ' H',Inv X pins σ' H' s'/\D.nx σ' H'
 | .brk=>∃σ' H',Inv X pins σ' H' s'/\D.bk σ' H'
 | .cont=>∃σ' H',Inv X pins σ' H' s'/\D.ct σ' H'
 | .ret u=>∃v σ' H',Inv X pins σ' H' s'/\RelV v u/\D.rt v H'
def PE (X:Cx)(e:Expr)(t:TE):Prop :=
 ∀(pins:List (Addr×Obj)) (s:Shared) (IA : St) (H:Hp) (Q:VK),Inv X pins IA H s->t IA H Q->wpAny (model X.prog X.w) X.A (eval e X.env) (EP X pins IA Q) X.xe s
def PT (X:Cx)(e:Expr)(t:TT):Prop :=
 ∀(pins:List (Addr×Obj)) (s:Shared) (IA : St) (H:Hp) (Q:Bool->Hp->Prop),Inv X pins IA H s->t IA H Q->wpAny (model X.prog X.w) X.A (isTrue e X.env (eval e X.env)) (TP X pins IA Q) X.xe s
def PW (X:Cx)(e:Expr)(t:TT):Prop :=
 ∀(whole:Sem Value) (pins:List (Addr×Obj)) (s:Shared) (IA : St) (H:Hp) (Q:Bool->Hp->Prop),Inv X pins IA H s->t IA H Q->wpAny (model X.prog X.w) X.A (isTrue e X.env whole) (TP X pins IA Q) X.xe s
theorem PW.pt {X:Cx}{e:Expr}{t:TT}(h:PW X e t):PT X e t:=h _
def PA (X:Cx)(es:List Expr)(t:TA):Prop :=
 ∀(pos:Pos) (pins:List (Addr×Obj)) (s:Shared) (IA : St) (H:Hp) (Q:List V->Hp->Prop),Inv X pins IA H s->t IA H Q->wpAny (model X.prog X.w) X.A (spliced (backTo pos (starEach es X.env))) (AP X pins IA Q) X.xe s
def PS (X:Cx)(st:Stmt)(t:TS):Prop :=
 ∀(pins:List (Addr×Obj)) (s:Shared) (IA : St) (H:Hp) (D:Ends),Inv X pins IA H s->t D IA H->wpAny (model X.prog X.w) X.A (exec st X.env) (SP X pins D) X.xe s
def fZ (X:Cx)(st:List Stmt)(t:TS):Prop :=
 ∀(pins:List (Addr×Obj)) (s:Shared) (IA : St) (H:Hp) (D:Ends),Inv X pins IA H s->t D IA H->wpAny (model X.prog X.w) X.A (execs st X.env) (SP X pins D) X.xe s
theorem aX {α : Type}{t:Sem α}{Q Q':α->Shared->Prop}{M:Model}{A:Around}{E:Value->Shared->Prop}{s:Shared}(h:wpAny M A t Q E s)(hQ:∀a s,Q a s->Q' a s):wpAny M A t Q' E s:=Lr h hQ fun _ _ x=>x
section
variable {X:Cx}
inductive ER (i:Nat) (IA : St) (H:Hp) (Q:VK):Prop
 | mk (v:_) (_:IA[i]?=some (some v)) (_:Q v H)
def tC (v:V):TE:=fun _ H Q=>Q v H
theorem ES {i:Nat} {x:Str} {pos:Pos} (hN:X.N[i]?=some x) (hv:EO X.env.scope x) (hd:(x == ("__debug__" : Str))=false:=by decide) (hcd:(x == ("__classdict__" : Str))=false:=by decide):PE X (.Name x pos) (ER i):=by
 intro pins s IA H Q I h
 obtain⟨v,e,h⟩:=h
 obtain⟨m,hn,hl⟩:=I.loc
 obtain⟨u,r,l⟩:=hl i x v hN e hv
 have fin:EP X pins IA Q u s:=⟨v,H,I,r,h⟩
 rcases l with ⟨hk,hm⟩ | ⟨hk,c,hc,hcell⟩
 ·exact wpAny_Name (wpAny_loadName_local I.ok.kind hk hn hm fin) hd
 ·rcases hk with hk | hk
  ·exact wpAny_Name (wpAny_loadName_cell I.ok.kind hk hc hcell fin) hd
  ·exact wpAny_Name (wpAny_loadName_free I.ok.kind hk hc hcell fin hcd) hd
theorem ah {i j pos}:PE X (.Constant (.int i) j pos) (tC (.int i)):=fun _ _ _ H _ I h=>wpAny_Constant_int ⟨.int i,H,I.tok _,⟨_,rfl⟩,h⟩
theorem gx {b j pos}:PE X (.Constant (.bool b) j pos) (tC (.bl b)):=fun _ _ _ H _ I h=>Constant_bool ⟨.bl b,H,I,rfl,h⟩
theorem fh {j pos}:PE X (.Constant .none j pos) (tC .bg):=fun _ _ _ H _ I h=>Constant_none ⟨.bg,H,I,rfl,h⟩
theorem b0 {x j pos}:PE X (.Constant (.str x) j pos) (tC (.str x)):=fun _ _ _ H _ I h=>Calls.Constant_str ⟨.str x,H,I.tok _,⟨_,rfl⟩,h⟩
def Gl (X:Cx)(x:Str):Prop:=X.env.kindOf x=some .globalImplicit
theorem kA {E:Value->Shared->Prop}{pins:List (Addr×Obj)}{s:Shared}{IA : St}{H:Hp}{x:Str}{u:Value}{pos:Pos}{Q:Value->Shared->Prop}(I:Inv X pins IA H s)(hg:Gl X x)(hm:X.mg x=some u)(h:Q u s)
  (hd:(x == ("__debug__" : Str))=false:=by decide):wpAny (model X.prog X.w) X.A (eval (.Name x pos) X.env) Q E s :=
 Calls.Name_function_global I.ok.kind hg (Calls.loadGlobal_global (by rw [I.ok.glob];exact I.mod.glob.keeps I.bk) hm h) hd
theorem iT {E:Value->Shared->Prop}{pins:List (Addr×Obj)}{s:Shared}{IA : St}{H:Hp}{x:Str}{u:Value}{pos:Pos}{Q:Value->Shared->Prop}(I:Inv X pins IA H s)(hg:Gl X x)(hm:X.mg x=none)(hv:bootBuiltins x=some u)(h:Q u s)
  (hn:x ≠ "__name__" := by decide) (hd:(x == ("__debug__" : Str))=false:=by decide):wpAny (model X.prog X.w) X.A (eval (.Name x pos) X.env) Q E s:=by
 obtain⟨mb,h1,h2⟩:=I.mod.blt
 exact Calls.Name_function_global I.ok.kind hg (Calls.loadGlobal_builtin (by rw [I.ok.glob];exact I.mod.glob.keeps I.bk) hm (by rw [I.ok.blt];exact h1.keeps I.bk) ((h2 x hn).trans hv) h) hd
theorem dC {x:Str} {v:V} {u:Value} {pos:Pos} (hg:Gl X x) (hm:X.mg x=some u) (r:RelV v u) (hd:(x == ("__debug__" : Str))=false:=by decide):PE X (.Name x pos) (tC v) :=
 fun _ _ _ H _ I h=>kA I hg hm ⟨v,H,I,r,h⟩ hd
theorem Dx {x:Str} {v:V} {u:Value} {pos:Pos} (hg:Gl X x) (hm:X.mg x=none) (hv:bootBuiltins x=some u) (r:RelV v u) (hn:x ≠ "__name__" := by decide) (hd:(x == ("__debug__" : Str))=false:=by decide):PE X (.Name x pos) (tC v) :=
 fun _ _ _ H _ I h=>iT I hg hm hv ⟨v,H,I,r,h⟩ hn hd
variable {a b:Expr}{ta tb:TE}{pos:Pos}
def PC (X:Cx)(op:CmpOp)(a b:Expr)(t:TE):Prop :=
 ∀(pins:List (Addr×Obj)) (s:Shared) (IA : St) (H:Hp) (Q:VK),Inv X pins IA H s->t IA H Q ->
  wpAny (model X.prog X.w) X.A (eval a X.env) (fun v s₁=>wpAny (model X.prog X.w) X.A (eval b X.env) (fun u s₂=>wpAny (model X.prog X.w) X.A (compareOp op v u) (EP X pins IA Q) X.xe s₂) X.xe s₁) X.xe s
theorem vb (b:Expr){op:CmpOp}(h:op≠.In)(h2:op≠.NotIn):behindInMarks op b=false:=by
 have e1:(op == CmpOp.In)=false:=by cases op <;> first | rfl | exact absurd rfl h
 have e2:(op == CmpOp.NotIn)=false:=by cases op <;> first | rfl | exact absurd rfl h2
 cases b <;> simp [behindInMarks,e1,e2]
def Hf (ta:TE):TE:=fun IA H Q=>ta IA H fun x H1=>Q (.bl (decide (x=.bg))) H1
def Gf (ta:TE):TE:=fun IA H Q=>ta IA H fun x H1=>Q (.bl (!decide (x=.bg))) H1
theorem RelV.vc {x:V}{v:Value}(r:RelV x v):(v == Value.none)=decide (x=.bg):=by
 cases x with
 | bg=>cases r;rfl
 | bl _=>cases r;rfl
 | int _=>obtain⟨t,rfl⟩:=r;rfl
 | str _=>obtain⟨t,rfl⟩:=r;rfl
 | jA _=>obtain⟨t,rfl⟩:=r;rfl
 | zx _=>obtain⟨t,rfl⟩:=r;rfl
 | ref _=>cases r;rfl
 | ty _=>cases r;rfl
theorem gc {j pos'}(ha:PE X a ta):PC X .Is a (.Constant .none j pos') (Hf ta):=by
 intro pins s IA H Q I h
 refine aX (ha pins s IA H _ I h) fun v s1 ⟨x,H1,I1,r1,q1⟩=>?_
 exact Constant_none (is_none_gen ⟨.bl _,H1,I1,by rw [r1.vc];rfl,q1⟩)
theorem kB {j pos'}(ha:PE X a ta):PC X .IsNot a (.Constant .none j pos') (Gf ta):=by
 intro pins s IA H Q I h
 refine aX (ha pins s IA H _ I h) fun v s1 ⟨x,H1,I1,r1,q1⟩=>?_
 exact Constant_none (isnot_none_gen ⟨.bl _,H1,I1,by rw [r1.vc];rfl,q1⟩)
inductive Gg (Q:(Bool->Hp->Prop)) (x:V) (H1:Hp):Prop
 | mk (c:_) (_:x=.bl c) (_:Q c H1)
def tB (t:TE):TT:=fun IA H Q=>t IA H fun x H1=>Gg Q x H1
theorem jC {op:CmpOp}{t:TE}(h:PC X op a b t)(h1:behindInMarks op b=false:=by first | exact vb _ (by decide) (by decide) | rfl):PE X (.Compare a [op] [b] pos) t:=fun pins s IA H Q I hw=>wpAny_Compare1 (h pins s IA H Q I hw) h1
theorem iU {op:CmpOp}{t:TE}(h:PC X op a b t)(h1:behindInMarks op b=false:=by first | exact vb _ (by decide) (by decide) | rfl):PT X (.Compare a [op] [b] pos) (tB t):=by
 intro pins s IA H Q I hw
 refine wpAny_isTrue_Compare1 (aX (h pins s IA H _ I hw) fun v s1 h1=>aX h1 fun u s2 h2=>aX h2 fun c s3 ⟨x,H1,I1,r1,q1⟩=>?_) h1
 obtain⟨d,rfl,q⟩:=q1
 cases r1
 exact Lz ⟨H1,I1,q⟩
theorem mP {e:Expr}{t:TE}(h:PE X e t)(he:∀whole,isTrue e X.env whole=(do let v <-whole;standAt e.pos;holding [v] (truthy v)):=by intro _;rfl):PT X e (tB t):=by
 intro pins s IA H Q I hw
 refine isTrue_plain (aX (h pins s IA H _ I hw) fun v s1 ⟨x,H1,I1,r1,q1⟩=>?_) (he _)
 obtain⟨d,rfl,q⟩:=q1
 cases r1
 exact Lz ⟨H1,I1,q⟩
variable {tA tB':TT}{rest:List Expr}
def Hg (t u:TT):TT:=fun IA H Q=>t IA H fun c H1=>if c=true then u IA H1 Q else Q false H1
def HW (t u:TT):TT:=fun IA H Q=>t IA H fun c H1=>if c=true then Q true H1 else u IA H1 Q
def Hh (t:TT):TT:=fun IA H Q=>t IA H fun c H1=>Q (!c) H1
theorem om (ha:PT X a tA):PW X (.BoolOp .And [a] pos) tA:=by
 intro wh pins s IA H Q I h
 refine isTrue_and (aX (ha pins s IA H Q I h) fun c s1 e=>?_)
 cases c with
 | true=>exact isTrue_and_nil e
 | false=>exact e
theorem vd (ha:PT X a tA):PW X (.BoolOp .Or [a] pos) tA:=by
 intro wh pins s IA H Q I h
 refine isTrue_or (aX (ha pins s IA H Q I h) fun c s1 e=>?_)
 cases c with
 | false=>exact isTrue_or_nil e
 | true=>exact e
theorem qr (ha:PT X a tA)(hb:PW X (.BoolOp .And (b::rest) pos) tB'):PW X (.BoolOp .And (a::b::rest) pos) (Hg tA tB'):=by
 intro wh pins s IA H Q I h
 refine isTrue_and (aX (ha pins s IA H _ I h) fun c s1 ⟨H1,I1,q1⟩=>?_)
 cases c with
 | true=>exact hb wh pins s1 IA H1 Q I1 q1
 | false=>exact⟨H1,I1,q1⟩
theorem yq (ha:PT X a tA)(hb:PW X (.BoolOp .Or (b::rest) pos) tB'):PW X (.BoolOp .Or (a::b::rest) pos) (HW tA tB'):=by
 intro wh pins s IA H Q I h
 refine isTrue_or (aX (ha pins s IA H _ I h) fun c s1 ⟨H1,I1,q1⟩=>?_)
 cases c with
 | true=>exact⟨H1,I1,q1⟩
 | false=>exact hb wh pins s1 IA H1 Q I1 q1
theorem zB (ha:PT X a tA):PT X (.UnaryOp .Not a pos) (Hh tA):=by
 intro pins s IA H Q I h
 exact isTrue_not (ha pins s IA H (fun c H1=>Q (!c) H1) I h)
inductive Be (tb:TE) (IA : St) (Q:VK) (x:V) (H1:Hp):Prop
 | mk (c:_) (_:x=.bl c) (_:if c=true then tb IA H1 Q else Q (.bl false) H1)
def Gh (ta tb:TE):TE:=fun IA H Q=>ta IA H fun x H1=>Be tb IA Q x H1
inductive Dy (tb:TE) (IA : St) (Q:VK) (x:V) (H1:Hp):Prop
 | mk (c:_) (_:x=.bl c) (_:if c=true then Q (.bl true) H1 else tb IA H1 Q)
def Hi (ta tb:TE):TE:=fun IA H Q=>ta IA H fun x H1=>Dy tb IA Q x H1
theorem hV {op}{t:TE}(h:PE X a t):PE X (.BoolOp op [a] pos) t:=fun pins s IA H Q I hw=>BoolOp_one (h pins s IA H Q I hw)
theorem mQ (ha:PE X a ta)(hb:PE X (.BoolOp .And (b::rest) pos) tb):PE X (.BoolOp .And (a::b::rest) pos) (Gh ta tb):=by
 intro pins s IA H Q I h
 refine BoolOp_and (aX (ha pins s IA H _ I h) fun v s1 ⟨x,H1,I1,r1,q1⟩=>?_)
 obtain⟨c,rfl,q1⟩:=q1
 cases r1
 refine Lz ?_
 cases c with
 | true=>exact hb pins s1 IA H1 Q I1 q1
 | false=>exact⟨.bl false,H1,I1,rfl,q1⟩
theorem uT (ha:PE X a ta)(hb:PE X (.BoolOp .Or (b::rest) pos) tb):PE X (.BoolOp .Or (a::b::rest) pos) (Hi ta tb):=by
 intro pins s IA H Q I h
 refine BoolOp_or (aX (ha pins s IA H _ I h) fun v s1 ⟨x,H1,I1,r1,q1⟩=>?_)
 obtain⟨c,rfl,q1⟩:=q1
 cases r1
 refine Lz ?_
 cases c with
 | false=>exact hb pins s1 IA H1 Q I1 q1
 | true=>exact⟨.bl true,H1,I1,rfl,q1⟩
def HX (t:TT)(ta tb:TE):TE:=fun IA H Q=>t IA H fun c H1=>if c=true then ta IA H1 Q else tb IA H1 Q
theorem e6 {c:Expr}(hc:PT X c tA)(ha:PE X a ta)(hb:PE X b tb):PE X (.IfExp c a b pos) (HX tA ta tb):=by
 intro pins s IA H Q I h
 refine wpAny_IfExp (aX (hc pins s IA H _ I h) fun d s1 ⟨H1,I1,q1⟩=>?_)
 cases d with
 | true=>exact ha pins s1 IA H1 Q I1 q1
 | false=>exact hb pins s1 IA H1 Q I1 q1
end
def aO (K:IC)(H:Hp)(a:Addr)(xs:List V):Prop :=
 Rd H a (.lst xs) \/
  ∃(o:Obj) (its:Array Value) (n:Nat),K.lookup a=some o/\o.cls=.type "list" /\ o.dict=none/\o.data=.seq its n/\its.size<=sizeLine/\Vals xs its.toList
def aw (K:IC)(H:Hp)(a:Addr)(xs:List V):Prop :=
 Rd H a (.tup xs) \/
  ∃(o:Obj) (its:Array Value) (n:Nat),K.lookup a=some o/\o.cls=.type "tuple" /\ o.data=.seq its n/\its.size<=sizeLine/\Vals xs its.toList
def Hj:Value->Option V
 | .none=>some .bg
 | .bool b=>some (.bl b)
 | .int i _=>some (.int i)
 | .str x _=>some (.str x)
 | .bytes b _=>some (.jA b)
 | .float b _=>some (.zx b)
 | .ref a=>some (.ref a)
 | .type n=>some (.ty n)
 | _=>none
theorem RelV.abs {x:V}{u:Value}(r:RelV x u):Hj u=some x:=by
 cases x with
 | bg=>cases r;rfl
 | bl _=>cases r;rfl
 | int _=>obtain⟨t,rfl⟩:=r;rfl
 | str _=>obtain⟨t,rfl⟩:=r;rfl
 | jA _=>obtain⟨t,rfl⟩:=r;rfl
 | zx _=>obtain⟨t,rfl⟩:=r;rfl
 | ref _=>cases r;rfl
 | ty _=>cases r;rfl
theorem RelV.inj {x y:V}{u:Value}(r:RelV x u)(q:RelV y u):x=y:=IU.inj (r.abs.symm.trans q.abs)
theorem Vals.inj:∀{xs ys:List V} {us:List Value},Vals xs us->Vals ys us->xs=ys
 | _,_,_,.nil,.nil=>rfl
 | _,_,_,.cons r t,.cons r' t'=>by rw [r.inj r',Vals.inj t t']
section
variable {X:Cx}{pins:List (Addr×Obj)}{IA : St}{H:Hp}{s:Shared}{a:Addr}{xs ys:List V}
theorem aO.of {K:IC}(h:H a=some (.lst xs)):aO K H a xs:=.inl (.inl h)
theorem aw.of {K:IC}(h:H a=some (.tup xs)):aw K H a xs:=.inl (.inl h)
theorem Inv.list (I:Inv X pins IA H s)(h:aO X.K H a xs):∃its:List Value,Vals xs its/\PlainL s.heap a its.toArray/\xs.length<=sizeLine:=by
 rcases h with h | ⟨o,its,n,hk,hc,hd,hs,hz,r⟩
 ·obtain⟨z,its,n,r,e⟩:=h.ok I.aN
  exact⟨its,r,⟨_,n,e,rfl,rfl,rfl⟩,z⟩
 ·refine⟨its.toList,r,⟨o,n,I.fY a o hk,hc,hd,by simpa using hs⟩,?_⟩
  have e:=r.length
  simp only [JA] at e
  omega
theorem Inv.tuple (I:Inv X pins IA H s)(h:aw X.K H a xs):∃its:List Value,Vals xs its/\IsTup s.heap a its.toArray/\xs.length<=sizeLine:=by
 rcases h with h | ⟨o,its,n,hk,hc,hs,hz,r⟩
 ·obtain⟨z,its,r,o,e,c,n,d,_⟩:=h.ok I.aN
  exact⟨its,r,⟨o,e,c,n,d⟩,z⟩
 ·refine⟨its.toList,r,⟨o,I.fY a o hk,hc,n,by simpa using hs⟩,?_⟩
  have e:=r.length
  simp only [JA] at e
  omega
theorem Inv.ll (I:Inv X pins IA H s)(h:aO X.K H a xs)(h':aO X.K H a ys):xs=ys:=by
 obtain⟨its,r,⟨o,n,e,_,_,d⟩,_⟩:=I.list h
 obtain⟨its',r',⟨o',n',e',_,_,d'⟩,_⟩:=I.list h'
 rw [e] at e';cases e'
 rw [d] at d'
 injection d' with d1 _
 have:its=its':=by simpa using congrArg Array.toList d1
 subst this
 exact r.inj r'
theorem Inv.jY (I:Inv X pins IA H s)(h:aw X.K H a xs)(h':aw X.K H a ys):xs=ys:=by
 obtain⟨its,r,⟨o,e,_,n,d⟩,_⟩:=I.tuple h
 obtain⟨its',r',⟨o',e',_,n',d'⟩,_⟩:=I.tuple h'
 rw [e] at e';cases e'
 rw [d] at d'
 injection d' with d1 _
 have:its=its':=by simpa using congrArg Array.toList d1
 subst this
 exact r.inj r'
end
abbrev Cx.j9 (X:Cx)(E:Value->Shared->Prop):Cx:={ X with xe:=E }
abbrev Cx.oW (X:Cx):Cx:=X.j9 fun _ _=>False
theorem Cx.Ok.j9 {X:Cx}(ok:X.Ok)(E:Value->Shared->Prop):(X.j9 E).Ok :=
 ⟨ok.mod,ok.kind,ok.glob,ok.blt,ok.above,ok.inj,ok.has,ok.tJ,ok.hd,ok.frames,ok.va,ok.zA,ok.bs,ok.my,ok.mO,ok.pI,ok.gI,ok.oV⟩
theorem Cx.Ok.iV {X:Cx}{E:Value->Shared->Prop}(ok:(X.j9 E).Ok):X.Ok :=
 ⟨ok.mod,ok.kind,ok.glob,ok.blt,ok.above,ok.inj,ok.has,ok.tJ,ok.hd,ok.frames,ok.va,ok.zA,ok.bs,ok.my,ok.mO,ok.pI,ok.gI,ok.oV⟩
section
variable {X:Cx}{pins:List (Addr×Obj)}{IA : St}{H:Hp}{s:Shared}{E:Value->Shared->Prop}
theorem Inv.j9 (I:Inv X pins IA H s)(E:Value->Shared->Prop):Inv (X.j9 E) pins IA H s:=⟨I.ok.j9 E,I.os,I.bare,I.base,I.loc,I.cell,I.free,I.dH,I.pin,I.aN,I.len⟩
theorem Inv.iV (I:Inv (X.j9 E) pins IA H s):Inv X pins IA H s:=⟨I.ok.iV,I.os,I.bare,I.base,I.loc,I.cell,I.free,I.dH,I.pin,I.aN,I.len⟩
theorem SP.iV {D:Ends}{f:Flow}{s':Shared}(h:SP (X.j9 E) pins D f s'):SP X pins D f s':=by
 cases f with
 | next=>obtain⟨σ',H',I,q⟩:=h;exact⟨σ',H',I.iV,q⟩
 | brk=>obtain⟨σ',H',I,q⟩:=h;exact⟨σ',H',I.iV,q⟩
 | cont=>obtain⟨σ',H',I,q⟩:=h;exact⟨σ',H',I.iV,q⟩
 | ret u=>obtain⟨v,σ',H',I,r,q⟩:=h;exact⟨v,σ',H',I.iV,r,q⟩
theorem fZ.oW {st:List Stmt}{t:TS}(h:fZ X.oW st t):fZ X st t:=fun pins s IA H D I hw =>
 Lr (h pins s IA H D (I.j9 _) hw) (fun _ _ q=>q.iV) fun _ _ z=>False.elim z
end
section
variable {X:Cx}{st:Stmt}{rest:List Stmt}{t u:TS}{e:Expr}{te:TE}{pos:Pos}
def Gi:TS:=fun D IA H=>D.nx IA H
def Hk (t u:TS):TS:=fun D IA H=>t { D with nx:=u D } IA H
theorem aV:fZ X [] Gi:=fun _ _ IA H _ I h=>LR ⟨IA,H,I,h⟩
theorem ae (h1:PS X st t)(h2:fZ X rest u):fZ X (st::rest) (Hk t u):=by
 intro pins s IA H D I h
 refine wpAny_execs_cons (aX (h1 pins s IA H { D with nx:=u D } I h) fun f s1 q=>?_)
 cases f with
 | next =>
  obtain⟨σ',H',I',q⟩:=q
  exact h2 pins s1 σ' H' D I' q
 | ret v=>exact q
 | brk=>exact q
 | cont=>exact q
theorem ai (h1:PS X st t):fZ X [st] t:=by
 intro pins s IA H D I h
 refine wpAny_execs_cons (aX (h1 pins s IA H D I h) fun f s1 q=>?_)
 cases f with
 | next=>exact LR q
 | ret v=>exact q
 | brk=>exact q
 | cont=>exact q
theorem Inv.quiet {pins:List (Addr×Obj)}{IA : St}{H:Hp}{s:Shared}(I:Inv X pins IA H s):interactive X.env=false:=by simp [interactive,I.ok.kind]
def Gj (te:TE):TS:=fun D IA H=>te IA H fun _ H1=>D.nx IA H1
theorem dD (he:PE X e te)(hs:swapsWith e none pos.line X.env=pure false:=by rfl):PS X (.Expr e pos) (Gj te):=by
 intro pins s IA H D I h
 exact wpAny_Expr_any (aX (he pins s IA H _ I h) fun v s1 ⟨x,H1,I1,r1,q1⟩=>⟨IA,H1,I1,q1⟩) I.quiet hs
def Hl (te:TE):TS:=fun D IA H=>te IA H D.rt
theorem aF (he:PE X e te):PS X (.Return (some e) pos) (Hl te):=by
 intro pins s IA H D I h
 exact wpAny_Return_some (aX (he pins s IA H _ I h) fun v s1 ⟨x,H1,I1,r1,q1⟩=>⟨x,IA,H1,I1,r1,q1⟩)
def Hm (c:TT)(t u:TS):TS:=fun D IA H=>c IA H fun b H1=>if b=true then t D IA H1 else u D IA H1
theorem bE {c:Expr}{a b:List Stmt}{tc:TT}(hc:PT X c tc)(ha:fZ X a t)(hb:fZ X b u):PS X (.If c a b pos) (Hm tc t u):=by
 intro pins s IA H D I h
 refine wpAny_If (aX (hc pins s IA H _ I h) fun d s1 ⟨H1,I1,q1⟩=>?_)
 cases d with
 | true=>exact ha pins s1 IA H1 D I1 q1
 | false=>exact hb pins s1 IA H1 D I1 q1
def ET:TS:=fun _ _ _=>False
theorem Bf:PS X st ET:=fun _ _ _ _ _ _ h=>h.elim
end
abbrev TG:=V->St->Hp->(St->Hp->Prop)->Prop
abbrev ve:=List V->St->Hp->(St->Hp->Prop)->Prop
def PG (X:Cx)(target:Expr)(t:TG):Prop :=
 ∀(pins:List (Addr×Obj)) (s:Shared) (IA : St) (H:Hp) (v:V) (u:Value) (Q:St->Hp->Prop),Inv X pins IA H s->RelV v u->t v IA H Q ->
  wpAny (model X.prog X.w) X.A (assign target X.env u) (fun _ s'=>∃σ' H',Inv X pins σ' H' s'/\Q σ' H') X.xe s
def C0 (X:Cx)(ts:List Expr)(t:ve):Prop :=
 ∀(pins:List (Addr×Obj)) (s:Shared) (IA : St) (H:Hp) (vs:List V) (us:List Value) (Q:St->Hp->Prop),Inv X pins IA H s->Vals vs us->t vs IA H Q ->
  wpAny (model X.prog X.w) X.A (assignInOrder ((assignEach ts X.env).map (·.2)) us) (fun _ s'=>∃σ' H',Inv X pins σ' H' s'/\Q σ' H') X.xe s
abbrev Bg:=V->V->V->Hp->(Hp->Prop)->Prop
def Bh (X:Cx)(t:Bg):Prop :=
 ∀(pins:List (Addr×Obj)) (s:Shared) (IA : St) (H:Hp) (o i v:V) (ov iv u:Value) (Q:Hp->Prop),Inv X pins IA H s->RelV o ov->RelV i iv->RelV v u->t o i v H Q ->
  wpAny (model X.prog X.w) X.A (setItem ov iv u) (fun _ s'=>∃H',Inv X pins IA H' s'/\Q H') X.xe s
section
variable {X:Cx}{pos:Pos}
def oo (i:Nat):TG:=fun v IA H Q=>Q (IA.set i (some v)) H
theorem Dz {i:Nat}{x:Str}(hN:X.N.Nodup)(hi:X.N[i]?=some x)(hx:Loc X.env.scope x)(hf:X.fn x=true\/X.env.scope.names.lookup x=some .local:=by first | exact .inl rfl | exact .inr rfl | assumption):PG X (.Name x pos) (oo i):=by
 intro pins s IA H v u Q I r h
 exact wpAny_assign_Name (jB I hN hi hx r (fun s' I'=>⟨_,H,I',h⟩) hf)
def Hn:ve:=fun vs IA H Q=>vs=[]/\Q IA H
inductive Gk (t:TG) (u:ve) (vs:List V) (IA : St) (H:Hp) (Q:(St->Hp->Prop)):Prop
 | mk (v r:_) (_:vs=v::r) (_:t v IA H fun σ' H'=>u r σ' H' Q)
theorem bX:C0 X [] Hn:=by
 intro pins s IA H vs us Q I r h
 obtain⟨e,h⟩:=h
 subst e
 cases r
 exact assignInOrder_nil ⟨IA,H,I,h⟩
theorem aK {e:Expr}{es:List Expr}{t:TG}{u:ve}(h1:PG X e t)(h2:C0 X es u)
  (hs:(assignEach (e::es) X.env).map (·.2)=assign e X.env::(assignEach es X.env).map (·.2):=by rfl):C0 X (e::es) (Gk t u):=by
 intro pins s IA H vs us Q I r h
 obtain⟨v,vr,e1,h⟩:=h
 subst e1
 cases r with
 | cons r rr =>
  rw [hs]
  refine assignInOrder_cons (aX (h1 pins s IA H _ _ _ I r h) fun _ s1 ⟨σ1,H1,I1,q1⟩=>?_)
  exact h2 pins s1 σ1 H1 _ _ Q I1 rr q1
inductive Bi (K:IC) (n:Nat) (t:ve) (v:V) (IA : St) (H:Hp) (Q:(St->Hp->Prop)):Prop
 | mk (a xs:_) (_:v=.ref a) (_:aw K H a xs) (_:xs.length=n) (_:t xs IA H Q)
theorem cx {es:List Expr}{k:Nat}{t:ve}{n:Nat}(hc:X.calm=true)(h:C0 X es t)
  (hn:(assignEach es X.env).length=n:=by rfl) (hst:(assignEach es X.env).findIdx? (·.1)=none:=by rfl):PG X (.Tuple es k pos) (Bi X.K n t):=by
 intro pins s IA H v u Q I r hw
 obtain⟨a,xs,e1,hq,hl,hw⟩:=hw
 subst e1
 cases r
 obtain⟨its,rv,ht,hz⟩:=I.tuple hq
 refine assign_Tuple_tuple (I.ok.hd hc) ht (by simp [hn,<-hl,rv.length]) hst fun h' hx=>?_
 have I1:Inv X pins IA H { s with heap:=h' }:=I.kept (t':=s.toks) fun b o e=>hx b o (IL (IG e)) e
 exact h pins _ IA H xs _ Q I1 (by simpa using rv) hw
def Ho (to ti:TE)(t:Bg):TG:=fun v IA H Q=>to IA H fun o H1=>ti IA H1 fun i H2=>t o i v H2 fun H3=>Q IA H3
theorem kC {o i:Expr}{to ti:TE}{t:Bg}(ho:PE X o to)(hi:PE X i ti)(hs:Bh X t)
  (ha:∀v,assign (.Subscript o i pos) X.env v=(do
   let ov <-holding [v] (eval o X.env)
   let iv <-holding [v,ov] (eval i X.env)
   standAt pos
   holding [v,ov,iv] (setItem ov iv v)
   release [v,ov,iv] []):=by intro _;rfl):PG X (.Subscript o i pos) (Ho to ti t):=by
 intro pins s IA H v u Q I r h
 rw [ha]
 refine Lo (Ls (aX (ho pins s IA H _ I h) fun ov s1 ⟨x,H1,I1,r1,q1⟩=>?_))
 refine Lo (Ls (aX (hi pins s1 IA H1 _ I1 q1) fun iv s2 ⟨y,H2,I2,r2,q2⟩=>?_))
 refine Lo (LG (Lo (Ls (aX (hs pins s2 IA H2 x y v ov iv u _ I2 r1 r2 r q2) fun _ s3 ⟨H3,I3,q3⟩=>?_))))
 exact wpAny_release ⟨IA,H3,I3,q3⟩
def yr (te:TE)(g:TG):TS:=fun D IA H=>te IA H fun x H1=>g x IA H1 D.nx
theorem cQ {tg e:Expr}{te:TE}{g:TG}(he:PE X e te)(hg:PG X tg g)(hs:swapsWithSole [tg] e pos.line X.env=pure false:=by rfl)(hw:swappedStores [tg] e X.env=pure none:=by rfl)
  (h1:(assignEach [tg] X.env).map (·.2)=[assign tg X.env]:=by rfl):PS X (.Assign [tg] e pos) (yr te g):=by
 intro pins s IA H D I h
 refine wpAny_Assign_stores (aX (he pins s IA H _ I h) fun v s1 ⟨x,H1,I1,r1,q1⟩=>?_) hs hw
 rw [h1]
 exact aX (hg pins s1 IA H1 x v _ I1 r1 q1) fun _ s2 q=>q
theorem EU {i:Nat}{x:Str}{e:Expr}{te:TE}{pos':Pos}(hN:X.N.Nodup)(hi:X.N[i]?=some x)(hx:Loc X.env.scope x)(he:PE X e te)(hs:swapsWith e (some (.Name x pos')) pos.line X.env=pure false:=by rfl)(hf:X.fn x=true\/X.env.scope.names.lookup x=some .local:=by first | exact .inl rfl | exact .inr rfl | assumption) :
  PS X (.Assign [.Name x pos'] e pos) (yr te (oo i)):=by
 intro pins s IA H D I h
 refine wpAny_Assign_Name (aX (he pins s IA H _ I h) fun v s1 ⟨y,H1,I1,r1,q1⟩=>?_) hs
 exact jB I1 hN hi hx r1 (fun s2 I2=>⟨_,H1,I2,q1⟩) hf
inductive DA (i:Nat) (j:Nat) (D:Ends) (IA : St) (vs:List V) (H1:Hp):Prop
 | mk (v w:_) (_:vs=[v,w]) (_:D.nx ((IA.set i (some v)).set j (some w)) H1)
def Hq (i j:Nat)(ta:TA):TS:=fun D IA H=>ta IA H fun vs H1=>DA i j D IA vs H1
theorem EV {i j:Nat}{x y:Str}{a b:Expr}{ta:TA}{px py pt:Pos}{kt k2 pt2}(hc:X.calm=true)(hN:X.N.Nodup)(hi:X.N[i]?=some x)(hj:X.N[j]?=some y)(hij:i≠j)
  (hx:X.env.scope.names.lookup x=some .local) (hy:X.env.scope.names.lookup y=some .local) (ha:PA X [a,b] ta)
  (hw:swappedStores [.Tuple [.Name x px,.Name y py] kt pt] (.Tuple [a,b] k2 pt2) X.env=pure (some [x,y]))
  (hs:swapsWithSole [.Tuple [.Name x px,.Name y py] kt pt] (.Tuple [a,b] k2 pt2) pos.line X.env=pure false:=by rfl) :
  PS X (.Assign [.Tuple [.Name x px,.Name y py] kt pt] (.Tuple [a,b] k2 pt2) pos) (Hq i j ta):=by
 intro pins s IA H D I h
 rw [exec_Assign_arm]
 refine Lo (LG ?_)
 rw [hs]
 refine Lo (Lq ?_)
 rw [if_neg (by decide)]
 refine Lo (Tuple_ (aX (ha _ pins s IA H _ I h) fun us s1 ⟨vs,H1,I1,r1,q1⟩=>?_))
 obtain⟨v,w,e1,q1⟩:=q1
 subst e1
 obtain⟨u1,u2,rfl,rv,rw'⟩:∃u1 u2,us=[u1,u2]/\RelV v u1/\RelV w u2:=by
  cases r1 with
  | cons p q =>
   cases q with
   | cons p' q' =>
    cases q'
    exact⟨_,_,rfl,p,p'⟩
 refine Lv ?_ (by show 2<=sizeLine;decide)
 have I2:Inv X pins IA H1 { s1 with heap:=s1.heap.push { cls:=.type "tuple",data:=.seq [u1,u2].toArray } }:=I1.kept (t':=s1.toks) fun b o e=>II _ e
 rw [hw]
 refine Lo (Lq ?_)
 show wpAny (model X.prog X.w) X.A (do rule "assign.swapped-stores";let items <-unpackItems (.ref s1.heap.objs.size) 2 none;assignInOrder [fun v=>bindName X.env y v,fun v=>bindName X.env x v] items.reverse;pure Flow.next) _ _ _
 refine Lo (LA (Lo (unpackItems_tuple (items:=#[u1,u2]) (I.ok.hd hc) (IsTup.new s1.heap _) fun h' hx'=>?_)))
 have I3:=I2.kept (h':=h') (t':=s1.toks) fun b o e=>hx' b o (IL (IG e)) e
 show wpAny _ _ (assignInOrder [fun v=>bindName X.env y v,fun v=>bindName X.env x v] [u2,u1] >>= fun _=>pure Flow.next) _ _ _
 refine Lo (assignInOrder_cons (wpAny_bindName (jB I3 hN hj (.inl hy) rw' (fun s2 I4=>?_) (.inr hy))))
 refine assignInOrder_cons (wpAny_bindName (jB I4 hN hi (.inl hx) rv (fun s3 I5=>assignInOrder_nil (Lq ?_)) (.inr hx)))
 rw [List.set_comm _ _ (Ne.symm hij)] at I5
 exact⟨_,H1,I5,q1⟩
end
section
variable {X:Cx}{pos:Pos}
def EW (c:TT)(tb:TS):TS:=fun D IA H=>∃W:Nat->St->Hp->Prop,(∃m,W m IA H)/\∀m IA H,W m IA H ->
 c IA H fun b H1=>if b=true then ∃N:St->Hp->Prop,(∀σ' H',N σ' H'->∃m',m' < m/\W m' σ' H')/\tb { D with nx:=N,ct:=N,bk:=D.nx } IA H1 else D.nx IA H1
theorem pK {c:Expr}{body:List Stmt}{tc:TT}{tb:TS}(hp:PassesOwn (model X.prog X.w) X.A X.env X.xe)(hc:PT X c tc)(hb:fZ X body tb):PS X (.While c body [] pos) (EW tc tb):=by
 intro pins s IA H D I h
 obtain⟨W,⟨m0,w0⟩,turn⟩:=h
 refine wpAny_While (codeAny_whileLoop (fun n s'=>∃σ' H',Inv X pins σ' H' s'/\W n σ' H') ?_ m0 ⟨IA,H,I,w0⟩)
 rintro n s1 ⟨σ1,H1,I1,w1⟩
 refine LH hp (aX (hc pins s1 σ1 H1 _ I1 (turn n σ1 H1 w1)) fun b s2 ⟨H2,I2,q2⟩=>?_)
 cases b with
 | true =>
  obtain⟨N,hN,q2⟩:=q2
  rw [if_pos rfl]
  refine LH hp (aX (hb pins s2 σ1 H2 _ I2 q2) fun f s3 q3=>?_)
  cases f with
  | next =>
   obtain⟨σ3,H3,I3,n3⟩:=q3
   obtain⟨m',hm,w3⟩:=hN σ3 H3 n3
   exact⟨m',hm,σ3,H3,I3,w3⟩
  | cont =>
   obtain⟨σ3,H3,I3,n3⟩:=q3
   obtain⟨m',hm,w3⟩:=hN σ3 H3 n3
   exact⟨m',hm,σ3,H3,I3,w3⟩
  | brk=>exact q3
  | ret v=>exact q3
 | false =>
  rw [if_neg Je]
  exact LR ⟨σ1,H2,I2,q2⟩
end
structure It where
 go:Nat->Hp->Prop
 tL:Nat->Hp->V->Hp->Prop
 stop:Nat->Hp->Prop
def hX (X:Cx)(pins:List (Addr×Obj))(H:Hp)(b:Addr):Prop :=
 H b=none/\b≠X.env.locals/\b∉X.fs/\(b∈X.ex\/X.dE.heap.objs.size<=b)/\(∀x c,X.env.cells.lookup x=some c->c≠b)/\∀p∈X.pn++pins,p.1≠b
theorem Inv.lr {X:Cx}{pins:List (Addr×Obj)}{IA : St}{H H':Hp}{s:Shared}{b:Addr}(I:Inv X pins IA H s)(hb:s.heap.objs.size<=b)(hn:H' b=none):hX X pins H' b:=by
 refine⟨hn,JB (Ji I.lt hb),I.He hb,.inr (IQ I.sz hb),fun x c e z=>?_,fun p hp z=>?_⟩
 ·obtain⟨v,q⟩:=I.cell x c e
  exact absurd (Ji q.lt (by rw [z];exact hb)) (Jd _)
 ·exact absurd (Ji (IG (I.pin p hp).1) (by rw [z];exact hb)) (Jd _)
structure Turn (P:Program) (w:World) (K:IC) (tg:Expr) (J:It) (fp:List Addr) (it:Addr) (tn:Nat->Heap->Prop):Prop where
 mem:it∈fp
 obj:∀i h,tn i h->∀b∈fp,∃o,h.get? b=some o/\∀v,o.data≠.cell v
 keep:∀i h h',tn i h->(∀b∈fp,∀o,h.get? b=some o->h'.get? b=some o)->tn i h'
 item:∀(X:Cx),X.prog=P->X.w=w->X.K=K->X.calm=true->∀(i:Nat) (pins:List (Addr×Obj)) (s:Shared) (IA : St) (H:Hp) (E:Value->Shared->Prop),Inv X pins IA H s->(∀b∈fp,hX X pins H b)->tn i s.heap->J.go i H ->
  wpAny (model P w) X.A (pyNext (.ref it)) (fun r s1=>∃u,r=some u /\
   wpAny (model P w) X.A (letOwnedTupleGo tg (.ref it) u) (fun _ s2=>∃x H',Inv X pins IA H' s2/\RelV x u/\J.tL i H x H'/\tn (i+1) s2.heap/\∀b∈fp,H' b=none) E s1) E s
 done:∀(X:Cx),X.prog=P->X.w=w->X.K=K->X.calm=true->∀(i:Nat) (pins:List (Addr×Obj)) (s:Shared) (IA : St) (H:Hp) (E:Value->Shared->Prop),Inv X pins IA H s->(∀b∈fp,hX X pins H b)->tn i s.heap->J.stop i H ->
  wpAny (model P w) X.A (pyNext (.ref it)) (fun r s1=>r=none/\Inv X pins IA H s1) E s
 self:∀(A:Around) (i:Nat) (s:Shared) (Q:Value->Shared->Prop) (E:Value->Shared->Prop),tn i s.heap->Q (.ref it) s->wpAny (model P w) A (pyIter (.ref it)) Q E s
abbrev TI:=St->Hp->(It->Hp->Prop)->Prop
def GU (X:Cx)(pins:List (Addr×Obj))(IA : St)(tg:Expr)(R:It->Hp->Prop)(itv:Value)(s2:Shared):Prop :=
 ∃(it:Addr) (fp:List Addr) (tn:Nat->Heap->Prop) (J:It) (H':Hp),itv=.ref it/\Inv X pins IA H' s2/\Turn X.prog X.w X.K tg J fp it tn/\tn 0 s2.heap/\(∀b∈fp,hX X pins H' b)/\R J H'
def PI (X:Cx)(tg iter:Expr)(wi:TI):Prop :=
 ∀(pins:List (Addr×Obj)) (s:Shared) (IA : St) (H:Hp) (R:It->Hp->Prop),Inv X pins IA H s->wi IA H R ->
  wpAny (model X.prog X.w) X.A (eval iter X.env) (fun v s1=>wpAny (model X.prog X.w) X.A (pyIter v) (GU X pins IA tg R) X.xe s1) X.xe s
theorem yt {M:Model}{A:Around}{E:Value->Shared->Prop}{s:Shared}{tg:Expr}{it:Addr}{u:Value}{o:Obj}{n:String}{vs:Array Value}{Q:Unit->Shared->Prop}(ho:s.heap.get? it=some o)(hc:o.cls=.type n)(hd:o.data=.fields vs)
    (hn:["enumerate", "zip", "dict_itemiterator", "dict_reverseitemiterator", "odict_iterator", "itertools.zip_longest", "itertools.pairwise"].contains n=false) (hQ:Q () s):wpAny M A (letOwnedTupleGo tg (.ref it) u) Q E s:=by
  unfold letOwnedTupleGo
  cases tg <;> first
    | exact Lq hQ
    | (cases u <;> first
        | exact Lq hQ
        | (refine Lo (wpAny_load ho ?_)
           rw [hc,hd]
           show wpAny M A (if (["enumerate", "zip", "dict_itemiterator", "dict_reverseitemiterator", "odict_iterator", "itertools.zip_longest", "itertools.pairwise"].contains n&&vs[0]? == some (rawInt _))=true then _ else _) Q E s
           rw [if_neg (by intro h;rw [hn,Kz] at h;cases h)]
           exact Lq hQ))
def xg (K:IC)(a:Addr):It :=
 ⟨fun i H=>∃xs x,aO K H a xs/\xs[i]?=some x,fun i H x H'=>H' = H/\∀xs,aO K H a xs->xs[i]?=some x,fun i H=>∃xs,aO K H a xs/\xs.length<=i⟩
def xh (K:IC)(a:Addr):It :=
 ⟨fun i H=>∃xs x,aw K H a xs/\xs[i]?=some x,fun i H x H'=>H' = H/\∀xs,aw K H a xs->xs[i]?=some x,fun i H=>∃xs,aw K H a xs/\xs.length<=i⟩
def vf (lo:Int)(n:Nat):It:=⟨fun i _=>i<n,fun i H x H'=>H' = H/\x=.int (lo+i),fun i _=>n<=i⟩
theorem zC {P:Program}{w:World}{K:IC}{tg:Expr}(a it:Addr):Turn P w K tg (xg K a) [it] it (fun i h=>h.IsListIter it a i) where
 mem:=by simp
 obj:=fun i h st b hb=>by
  have e:b=it:=by simpa using hb
  subst e
  obtain⟨o,e,c,d⟩:=st
  exact⟨o,e,fun v z=>by rw [d] at z;cases z⟩
 keep:=fun i h h' st k=>st.at fun o e=>k it (by simp) o e
 item:=by
  intro X hP hw hK hc i pins s IA H E I hf st hg
  subst hP hw hK
  obtain⟨xs,x,hq,hx⟩:=hg
  obtain⟨its,rv,p,hz⟩:=I.list hq
  obtain⟨u,hu,ru⟩:=rv.get hx
  obtain⟨f0,f1,f2,f3,f4,f5⟩:=hf it (by simp)
  refine wpAny_pyNext_list_item st p.isList (x:=u) (by simpa using hu) fun h' st' sb=>?_
  have I1:Inv X pins IA H { s with heap:=h' }:=I.turned (t':=s.toks) (fun b o hb e=>(sb.2 b hb).trans e) f0 f1 f3 f4 f5
  obtain⟨o,e,c,d⟩:=id st'
  exact⟨u,rfl,yt (s:={ s with heap:=h' }) e c d (by decide) ⟨x,H,I1,ru,⟨rfl,fun ys hy=>by rw [I.ll hy hq];exact hx⟩,st',fun b hb=>(hf b hb).1⟩⟩
 done:=by
  intro X hP hw hK hc i pins s IA H E I hf st hg
  subst hP hw hK
  obtain⟨xs,hq,hx⟩:=hg
  obtain⟨its,rv,p,hz⟩:=I.list hq
  obtain⟨f0,f1,f2,f3,f4,f5⟩:=hf it (by simp)
  have hl:=rv.length
  exact wpAny_pyNext_list_end (I.ok.hd hc) st p.isList (by simp;omega) fun h' eb=>⟨rfl,I.turned (t':=s.toks) (fun b o hb e=>eb b o hb e) f0 f1 f3 f4 f5⟩
 self:=fun _ _ _ _ _ st h=>wpAny_pyIter_listiter st h
theorem yu {P:Program}{w:World}{K:IC}{tg:Expr}(a it:Addr):Turn P w K tg (xh K a) [it] it (fun i h=>h.IsTupleIter it a i) where
 mem:=by simp
 obj:=fun i h st b hb=>by
  have e:b=it:=by simpa using hb
  subst e
  obtain⟨o,e,c,d⟩:=st
  exact⟨o,e,fun v z=>by rw [d] at z;cases z⟩
 keep:=fun i h h' st k=>st.at fun o e=>k it (by simp) o e
 item:=by
  intro X hP hw hK hc i pins s IA H E I hf st hg
  subst hP hw hK
  obtain⟨xs,x,hq,hx⟩:=hg
  obtain⟨its,rv,p,hz⟩:=I.tuple hq
  obtain⟨u,hu,ru⟩:=rv.get hx
  obtain⟨f0,f1,f2,f3,f4,f5⟩:=hf it (by simp)
  refine wpAny_pyNext_tuple_item st (show s.heap.IsTuple a its.toArray from p) (x:=u) (by simpa using hu) fun h' st' sb=>?_
  have I1:Inv X pins IA H { s with heap:=h' }:=I.turned (t':=s.toks) (fun b o hb e=>(sb.2 b hb).trans e) f0 f1 f3 f4 f5
  obtain⟨o,e,c,d⟩:=id st'
  exact⟨u,rfl,yt (s:={ s with heap:=h' }) e c d (by decide) ⟨x,H,I1,ru,⟨rfl,fun ys hy=>by rw [I.jY hy hq];exact hx⟩,st',fun b hb=>(hf b hb).1⟩⟩
 done:=by
  intro X hP hw hK hc i pins s IA H E I hf st hg
  subst hP hw hK
  obtain⟨xs,hq,hx⟩:=hg
  obtain⟨its,rv,p,hz⟩:=I.tuple hq
  obtain⟨f0,f1,f2,f3,f4,f5⟩:=hf it (by simp)
  have hl:=rv.length
  exact wpAny_pyNext_tuple_end (I.ok.hd hc) st (show s.heap.IsTuple a its.toArray from p) (by simp;omega) fun h' eb=>⟨rfl,I.turned (t':=s.toks) (fun b o hb e=>eb b o hb e) f0 f1 f3 f4 f5⟩
 self:=fun _ _ _ _ _ st h=>wpAny_pyIter_tupleiter st h
theorem yw {P:Program}{w:World}{K:IC}{tg:Expr}(it:Addr)(lo:Int)(n:Nat):Turn P w K tg (vf lo n) [it] it (fun i h=>IsRangeIter h it (lo+(i:Nat)*1) ((n:Int)-(i:Nat)) 1) where
 mem:=by simp
 obj:=fun i h st b hb=>by
  have e:b=it:=by simpa using hb
  subst e
  exact⟨_,st,fun v z=>by
   have z':Data.fields _=Data.cell v:=z
   cases z'⟩
 keep:=fun i h h' st k=>k it (by simp) _ st
 item:=by
  intro X hP hw hK hc i pins s IA H E I hf st hg
  subst hP hw hK
  obtain⟨f0,f1,f2,f3,f4,f5⟩:=hf it (by simp)
  have W:=Walks.range (prog:=X.prog) (w:=X.w) (I.ok.hd hc) it lo 1 n
  refine W.item i s _ _ hg st fun v h' tk hv st' kk=>?_
  obtain⟨t,rfl⟩:=hv
  have I1:Inv X pins IA H { s with heap:=h',toks:=tk }:=I.turned (fun b o hb e=>kk b o (by simpa using hb) e) f0 f1 f3 f4 f5
  refine⟨_,rfl,yt (s:={ s with heap:=h',toks:=tk }) (n := "range_iterator") st' rfl rfl (by decide) ⟨.int (lo+i),H,I1,⟨t,?_⟩,⟨rfl,rfl⟩,st',fun b hb=>(hf b hb).1⟩⟩
  rw [Int.mul_one]
 done:=by
  intro X hP hw hK hc i pins s IA H E I hf st hg
  subst hP hw hK
  obtain⟨f0,f1,f2,f3,f4,f5⟩:=hf it (by simp)
  exact wpAny_pyNext_range_end (I.ok.hd hc) st (by have:n<=i:=hg;omega) fun h' eb=>⟨rfl,I.turned (t':=s.toks) (fun b o hb e=>eb b o hb e) f0 f1 f3 f4 f5⟩
 self:=fun _ _ _ _ _ st h=>wpAny_pyIter_rangeiter st h
section
variable {X:Cx}{tg:Expr}
inductive Bj (K:IC) (R:(It->Hp->Prop)) (x:V) (H1:Hp):Prop
 | mk (a:_) (_:x=.ref a) (_:(∃xs,aO K H1 a xs)) (_:R (xg K a) H1)
def Gm (K:IC)(tl:TE):TI:=fun IA H R=>tl IA H fun x H1=>Bj K R x H1
inductive DB (K:IC) (R:(It->Hp->Prop)) (x:V) (H1:Hp):Prop
 | mk (a:_) (_:x=.ref a) (_:(∃xs,aw K H1 a xs)) (_:R (xh K a) H1)
def Hr (K:IC)(tl:TE):TI:=fun IA H R=>tl IA H fun x H1=>DB K R x H1
theorem ow {l:Expr}{tl:TE}(hl:PE X l tl):PI X tg l (Gm X.K tl):=by
 intro pins s IA H R I h
 refine aX (hl pins s IA H _ I h) fun v s1 ⟨x,H1,I1,r1,q1⟩=>?_
 obtain⟨a,e,⟨xs,hq⟩,q⟩:=q1
 subst e
 cases r1
 obtain⟨its,rv,p,hz⟩:=I1.list hq
 refine L1 p.isList ?_
 refine⟨s1.heap.objs.size,[s1.heap.objs.size],_,_,H1,rfl,I1.kept (t':=s1.toks) fun b o e=>II _ e,zC a _,⟨_,IK _ rfl,rfl,rfl⟩,fun b hb=>?_,q⟩
 have e:b=s1.heap.objs.size:=by simpa using hb
 subst e
 exact I1.lr (IF _) (I1.aN.fresh (IF _))
theorem ef {l:Expr}{tl:TE}(hl:PE X l tl):PI X tg l (Hr X.K tl):=by
 intro pins s IA H R I h
 refine aX (hl pins s IA H _ I h) fun v s1 ⟨x,H1,I1,r1,q1⟩=>?_
 obtain⟨a,e,⟨xs,hq⟩,q⟩:=q1
 subst e
 cases r1
 obtain⟨its,rv,p,hz⟩:=I1.tuple hq
 refine LJ (show s1.heap.IsTuple a its.toArray from p) ?_
 refine⟨s1.heap.objs.size,[s1.heap.objs.size],_,_,H1,rfl,I1.kept (t':=s1.toks) fun b o e=>II _ e,yu a _,⟨_,IK _ rfl,rfl,rfl⟩,fun b hb=>?_,q⟩
 have e:b=s1.heap.objs.size:=by simpa using hb
 subst e
 exact I1.lr (IF _) (I1.aN.fresh (IF _))
theorem Bk {pins:List (Addr×Obj)}{IA : St}{H:Hp}{s:Shared}{R:It->Hp->Prop}{E:Value->Shared->Prop}{lo hi:Int}{t u v:Tok}{tk:Nat}(I:Inv X pins IA H s)(h1:-(2 ^ 62)<=lo)(h2:lo<2 ^ 62)(h3:-(2 ^ 62)<=hi)(h4:hi<2 ^ 62)
  (q:R (vf lo (hi-lo).toNat) H):wpAny (model X.prog X.w) X.A (pyIter (.ref s.heap.objs.size)) (GU X pins IA tg R) E { s with heap:=s.heap.push { cls:=.type "range",data:=.fields #[.int lo t,.int hi u,.int 1 v] },toks:=tk }:=by
 refine wpAny_pyIter_range (IsRange.new ..) (small_one h1 h2 h3 h4) ?_
 have I1:Inv X pins IA H { s with heap:=s.heap.push { cls:=.type "range",data:=.fields #[.int lo t,.int hi u,.int 1 v] },toks:=tk }:=I.kept fun b o e=>II _ e
 refine⟨(s.heap.push { cls:=.type "range",data:=.fields #[.int lo t,.int hi u,.int 1 v] }).objs.size,[(s.heap.push { cls:=.type "range",data:=.fields #[.int lo t,.int hi u,.int 1 v] }).objs.size],_,_,H,rfl,
  I1.kept (t':=tk) fun b o e=>II _ e,yw _ lo (hi-lo).toNat,?_,fun b hb=>?_,q⟩
 ·have e1:lo+((0:Nat):Int)*1=lo:=by simp
  have e2:(((hi-lo).toNat:Nat):Int)-((0:Nat):Int)=Builtin.Range.rangeSize lo hi 1:=by rw [rangeSize_one];split <;> omega
  show IsRangeIter _ _ (lo+((0:Nat):Int)*1) ((((hi-lo).toNat:Nat):Int)-((0:Nat):Int)) 1
  rw [e1,e2]
  exact IK _ rfl
 ·have e:b=(s.heap.push { cls:=.type "range",data:=.fields #[.int lo t,.int hi u,.int 1 v] }).objs.size:=by simpa using hb
  subst e
  exact I1.lr (IF _) (I1.aN.fresh (IF _))
inductive Bm (R:(It->Hp->Prop)) (vs:List V) (H1:Hp):Prop
 | mk (j:Int) (_:vs=[.int j]) (_:-(2 ^ 62)<=j) (_:j<2 ^ 62) (_:R (vf 0 j.toNat) H1)
def Gn (ta:TA):TI:=fun IA H R=>ta IA H fun vs H1=>Bm R vs H1
theorem fF {a:Expr} {ta:TA} {p pos:Pos} (hg:Gl X "range") (hm:X.mg "range" = none) (ha:PA X [a] ta) (hs:starEach [a] X.env=[(false,eval a X.env)]:=by rfl):PI X tg (.Call (.Name "range" p) [a] [] pos) (Gn ta):=by
 intro pins s IA H R I h
 refine Call_ (iT I hg hm boot_range (PyProof.Rows.callWith_type1 (aX (ha pos pins s IA H _ I h) fun us s1 ⟨vs,H1,I1,r1,q1⟩=>?_) hs rfl))
 obtain⟨j,e,q1,q2,q⟩:=q1
 subst e
 cases r1 with
 | cons r rr =>
  cases rr
  obtain⟨t,rfl⟩:=r
  exact call_range_1 (Bk I1 (by omega) (by omega) q1 q2 (by simpa using q))
def Hs (wi:TI)(g:TG)(tb:TS):TS:=fun D IA H=>wi IA H fun J H1=>∃W:Nat->Nat->St->Hp->Prop,(∃m,W 0 m IA H1)/\∀i m IA H,W i m IA H ->
 (J.stop i H/\D.nx IA H)\/(J.go i H/\∃N:St->Hp->Prop,(∀σ' H',N σ' H'->∃m',m' < m/\W (i+1) m' σ' H')/\∀x H',J.tL i H x H'->g x IA H' fun σ2 H2=>tb { D with nx:=N,ct:=N,bk:=D.nx } σ2 H2)
def mR (fp:List Addr)(h:Heap):List (Addr×Obj):=fp.filterMap fun b=>(h.get? b).map fun o=>(b,o)
theorem ji {fp:List Addr}{h:Heap}{b:Addr}{o:Obj}(hb:b∈fp)(e:h.get? b=some o):(b,o)∈mR fp h:=KC.mpr ⟨b,hb,by rw [e];rfl⟩
theorem zD {fp:List Addr}{h:Heap}{p:Addr×Obj}(hp:p∈mR fp h):p.1∈fp/\h.get? p.1=some p.2:=by
 obtain⟨b,hb,e⟩:=KC.mp hp
 cases q:h.get? b with
 | none=>rw [q] at e;cases e
 | some o =>
  rw [q] at e
  have e':(b,o)=p:=IU.inj e
  subst e'
  exact⟨hb,q⟩
theorem Inv.pinned {pins:List (Addr×Obj)}{IA : St}{H:Hp}{s:Shared}{fp:List Addr}(I:Inv X pins IA H s)(hf:∀b∈fp,hX X pins H b)(ho:∀b∈fp,∃o,s.heap.get? b=some o/\∀v,o.data≠.cell v):Inv X (pins++mR fp s.heap) IA H s :=
 I.xf fun p hp=>(IV.mp hp).elim (fun z=>I.pin p (Jl _ z)) fun z=>by
  obtain⟨hb,e⟩:=zD z
  obtain⟨f0,f1,f2,_⟩:=hf p.1 hb
  obtain⟨o,e',d⟩:=ho p.1 hb
  rw [e] at e';cases e'
  exact⟨e,f0,f1,f2,d⟩
theorem Inv.jD {pins pl:List (Addr×Obj)}{IA : St}{H:Hp}{s:Shared}(I:Inv X (pins++pl) IA H s):Inv X pins IA H s:=I.xf fun p hp=>I.pin p (Jl _ (Jz _ hp))
theorem eG {iter:Expr}{body:List Stmt}{wi:TI}{g:TG}{tb:TS}{pos:Pos}(hp:PassesOwn (model X.prog X.w) X.A X.env X.xe)(hc:X.calm=true)(hi:PI X tg iter wi)(hg:PG X tg g)(hb:fZ X body tb)
  (hs:∀x,foldedSetIterable iter X.env x=pure x:=by intro _;rfl):PS X (.For tg iter body [] pos) (Hs wi g tb):=by
 intro pins s IA H D I h
 refine wpAny_For (aX (hi pins s IA H _ I h) fun v s1 h1=>aX h1 fun itv s2 h2=>?_) hs
 obtain⟨it,fp,tn,J,H2,e,I2,T,st2,f2,W,⟨m0,w0⟩,turn⟩:=h2
 subst e
 have stat:∀{H':Hp},(∀b∈fp,H' b=none)->∀b∈fp,hX X pins H' b:=fun hn b hb=>⟨hn b hb,(f2 b hb).2⟩
 refine codeAny_forLoop_any (fun n s'=>∃i σ' H',Inv X pins σ' H' s'/\tn i s'.heap/\(∀b∈fp,H' b=none)/\W i n σ' H') ?_ m0 ⟨0,IA,H2,I2,st2,fun b hb=>(f2 b hb).1,w0⟩
 rintro n s3 ⟨i,σ3,H3,I3,st3,fr3,w3⟩
 rcases turn i n σ3 H3 w3 with ⟨stop,qn⟩ | ⟨go,N,hN,step⟩
 ·refine LH hp (aX (T.done X rfl rfl rfl hc i pins s3 σ3 H3 X.xe I3 (stat fr3) st3 stop) fun r s4 ⟨hr,I4⟩=>?_)
  subst hr
  exact LR ⟨σ3,H3,I4,qn⟩
 ·refine LH hp (aX (T.item X rfl rfl rfl hc i pins s3 σ3 H3 X.xe I3 (stat fr3) st3 go) fun r s4 ⟨u,hr,h4⟩=>?_)
  subst hr
  refine LH hp (aX h4 fun _ s5 ⟨x,H5,I5,r5,y5,st5,fr5⟩=>?_)
  have I5':=I5.pinned (stat fr5) (T.obj _ _ st5)
  refine LH hp (aX (hg _ s5 σ3 H5 x u _ I5' r5 (step x H5 y5)) fun _ s6 ⟨σ6,H6,I6,q6⟩=>?_)
  refine LH hp (aX (hb _ s6 σ6 H6 _ I6 q6) fun f s7 q7=>?_)
  have again:∀{σ7:St} {H7:Hp},Inv X (pins++mR fp s5.heap) σ7 H7 s7->N σ7 H7->∃m,m<n/\∃i σ' H',Inv X pins σ' H' s7/\tn i s7.heap/\(∀b∈fp,H' b=none)/\W i m σ' H':=fun {σ7 H7} I7 n7=>by
   obtain⟨m',hm,w7⟩:=hN σ7 H7 n7
   refine⟨m',hm,i+1,σ7,H7,I7.jD,T.keep _ _ _ st5 fun b hb o e=>(I7.pin (b,o) (Jl _ (Jl _ (ji hb e)))).1,fun b hb=>?_,w7⟩
   obtain⟨o,e,d⟩:=T.obj _ _ st5 b hb
   exact (I7.pin (b,o) (Jl _ (Jl _ (ji hb e)))).2.1
  cases f with
  | next=>obtain⟨σ7,H7,I7,n7⟩:=q7;exact again I7 n7
  | cont=>obtain⟨σ7,H7,I7,n7⟩:=q7;exact again I7 n7
  | brk=>obtain⟨σ7,H7,I7,q7⟩:=q7;exact⟨σ7,H7,I7.jD,q7⟩
  | ret v=>obtain⟨x7,σ7,H7,I7,r7,q7⟩:=q7;exact⟨x7,σ7,H7,I7.jD,r7,q7⟩
end
theorem Bn {K:IC}{a:Addr}{xs:List V}{g:TG}{tb:TS}{D:Ends}{IA : St}{H:Hp}(Pv:Nat->St->Hp->Prop)(h0:Pv 0 IA H)(hl:∀i IA H,i<=xs.length->Pv i IA H->aO K H a xs)
  (hs:∀i x IA H,xs[i]?=some x->Pv i IA H->g x IA H fun σ2 H2=>tb { D with nx:=Pv (i+1),ct:=Pv (i+1),bk:=D.nx } σ2 H2) (hd:∀IA H,Pv xs.length IA H->D.nx IA H) :
  ∃W:Nat->Nat->St->Hp->Prop,(∃m,W 0 m IA H)/\∀i m IA H,W i m IA H ->
   ((xg K a).stop i H/\D.nx IA H)\/((xg K a).go i H/\∃N:St->Hp->Prop,(∀σ' H',N σ' H'->∃m',m' < m/\W (i+1) m' σ' H')/\∀x H',(xg K a).tL i H x H'->g x IA H' fun σ2 H2=>tb { D with nx:=N,ct:=N,bk:=D.nx } σ2 H2):=by
 refine⟨fun i m IA H=>m=xs.length-i/\i<=xs.length/\Pv i IA H,⟨xs.length,by simp,Jc _,h0⟩,?_⟩
 rintro i m IA H ⟨rfl,hi,p⟩
 have q:=hl i IA H hi p
 by_cases hlt:i<xs.length
 ·refine .inr ⟨⟨xs,xs[i],q,by simp [hlt]⟩,Pv (i+1),fun σ' H' p'=>⟨xs.length-(i+1),by omega,rfl,hlt,p'⟩,fun x H' y=>?_⟩
  obtain⟨e,y⟩:=y
  subst e
  exact hs i x IA _ (y xs q) p
 ·have e:i=xs.length:=by omega
  subst e
  exact .inl ⟨⟨xs,q,IF _⟩,hd IA H p⟩
theorem gU {K:IC}{a:Addr}{xs:List V}{g:TG}{tb:TS}{D:Ends}{IA : St}{H:Hp}(Pv:Nat->St->Hp->Prop)(h0:Pv 0 IA H)(hl:∀i IA H,i<=xs.length->Pv i IA H->aw K H a xs)
  (hs:∀i x IA H,xs[i]?=some x->Pv i IA H->g x IA H fun σ2 H2=>tb { D with nx:=Pv (i+1),ct:=Pv (i+1),bk:=D.nx } σ2 H2) (hd:∀IA H,Pv xs.length IA H->D.nx IA H) :
  ∃W:Nat->Nat->St->Hp->Prop,(∃m,W 0 m IA H)/\∀i m IA H,W i m IA H ->
   ((xh K a).stop i H/\D.nx IA H)\/((xh K a).go i H/\∃N:St->Hp->Prop,(∀σ' H',N σ' H'->∃m',m' < m/\W (i+1) m' σ' H')/\∀x H',(xh K a).tL i H x H'->g x IA H' fun σ2 H2=>tb { D with nx:=N,ct:=N,bk:=D.nx } σ2 H2):=by
 refine⟨fun i m IA H=>m=xs.length-i/\i<=xs.length/\Pv i IA H,⟨xs.length,by simp,Jc _,h0⟩,?_⟩
 rintro i m IA H ⟨rfl,hi,p⟩
 have q:=hl i IA H hi p
 by_cases hlt:i<xs.length
 ·refine .inr ⟨⟨xs,xs[i],q,by simp [hlt]⟩,Pv (i+1),fun σ' H' p'=>⟨xs.length-(i+1),by omega,rfl,hlt,p'⟩,fun x H' y=>?_⟩
  obtain⟨e,y⟩:=y
  subst e
  exact hs i x IA _ (y xs q) p
 ·have e:i=xs.length:=by omega
  subst e
  exact .inl ⟨⟨xs,q,IF _⟩,hd IA H p⟩
theorem mS {lo:Int}{n:Nat}{g:TG}{tb:TS}{D:Ends}{IA : St}{H:Hp}(Pv:Nat->St->Hp->Prop)(h0:Pv 0 IA H)
  (hs:∀i IA H,i<n->Pv i IA H->g (.int (lo+i)) IA H fun σ2 H2=>tb { D with nx:=Pv (i+1),ct:=Pv (i+1),bk:=D.nx } σ2 H2) (hd:∀IA H,Pv n IA H->D.nx IA H) :
  ∃W:Nat->Nat->St->Hp->Prop,(∃m,W 0 m IA H)/\∀i m IA H,W i m IA H ->
   ((vf lo n).stop i H/\D.nx IA H)\/((vf lo n).go i H/\∃N:St->Hp->Prop,(∀σ' H',N σ' H'->∃m',m' < m/\W (i+1) m' σ' H')/\∀x H',(vf lo n).tL i H x H'->g x IA H' fun σ2 H2=>tb { D with nx:=N,ct:=N,bk:=D.nx } σ2 H2):=by
 refine⟨fun i m IA H=>m=n-i/\i<=n/\Pv i IA H,⟨n,by simp,Jc _,h0⟩,?_⟩
 rintro i m IA H ⟨rfl,hi,p⟩
 by_cases hlt:i<n
 ·refine .inr ⟨hlt,Pv (i+1),fun σ' H' p'=>⟨n-(i+1),by omega,rfl,hlt,p'⟩,fun x H' y=>?_⟩
  obtain⟨e,y⟩:=y
  subst e y
  exact hs i IA _ hlt p
 ·have e:i=n:=by omega
  subst e
  exact .inl ⟨IF _,hd IA H p⟩
abbrev R2:=V->V->Hp->VK->Prop
def dZ (X:Cx)(f:Value->Value->Sem Value)(r:R2):Prop :=
 ∀(pins:List (Addr×Obj)) (s:Shared) (IA : St) (H:Hp) (x y:V) (v u:Value) (Q:VK),Inv X pins IA H s->RelV x v->RelV y u->r x y H Q ->
  wpAny (model X.prog X.w) X.A (f v u) (EP X pins IA Q) X.xe s
def dU (X:Cx)(f:Value)(r:List V->Hp->VK->Prop):Prop :=
 ∀(pins:List (Addr×Obj)) (s:Shared) (IA : St) (H:Hp) (xs:List V) (us:List Value) (Q:VK),Inv X pins IA H s->Vals xs us->r xs H Q ->
  wpAny (model X.prog X.w) X.A (call f us) (EP X pins IA Q) X.xe s
def Ht (X:Cx)(r:V->Hp->(Bool->Hp->Prop)->Prop):Prop :=
 ∀(pins:List (Addr×Obj)) (s:Shared) (IA : St) (H:Hp) (x:V) (v:Value) (Q:Bool->Hp->Prop),Inv X pins IA H s->RelV x v->r x H Q ->
  wpAny (model X.prog X.w) X.A (truthy v) (TP X pins IA Q) X.xe s
def zE (r:R2)(ta tb:TE):TE:=fun IA H Q=>ta IA H fun x H1=>tb IA H1 fun y H2=>r x y H2 Q
inductive rI (C:Int->Int->Prop) (g:Int->Int->V) (x:V) (y:V) (H:Hp) (Q:VK):Prop
 | mk (i j:_) (_:x=.int i) (_:y=.int j) (_:C i j) (_:Q (g i j) H)
inductive vg (g:Int->Int->V) (x:V) (y:V) (H:Hp) (Q:VK):Prop
 | mk (i j:_) (_:x=.int i) (_:y=.int j) (_:Q (g i j) H)
section
variable {X:Cx}{a b c:Expr}{ta tb tc:TE}{pos:Pos}
theorem Bo (ha:PE X a ta)(hb:PE X b tb){pins:List (Addr×Obj)}{s:Shared}{IA : St}{H:Hp}{R:V->V->Hp->Prop}(I:Inv X pins IA H s)
  (h:ta IA H fun x H1=>tb IA H1 fun y H2=>R x y H2) {Q:Value->Shared->Prop} {f:Value->Value->Sem Value}
  (hf:∀v u s2 x y H2,Inv X pins IA H2 s2->RelV x v->RelV y u->R x y H2->wpAny (model X.prog X.w) X.A (f v u) Q X.xe s2) :
  wpAny (model X.prog X.w) X.A (eval a X.env) (fun v s₁=>wpAny (model X.prog X.w) X.A (eval b X.env) (fun u s₂=>wpAny (model X.prog X.w) X.A (f v u) Q X.xe s₂) X.xe s₁) X.xe s:=by
 refine aX (ha pins s IA H _ I h) fun v s1 ⟨x,H1,I1,r1,q1⟩=>?_
 refine aX (hb pins s1 IA H1 _ I1 q1) fun u s2 ⟨y,H2,I2,r2,q2⟩=>?_
 exact hf v u s2 x y H2 I2 r1 r2 q2
theorem bf {op:Operator}{r:R2}(ho:dZ X (binaryOp op) r)(ha:PE X a ta)(hb:PE X b tb):PE X (.BinOp a op b pos) (zE r ta tb):=by
 intro pins s IA H Q I h
 exact wpAny_BinOp (Bo ha hb I h fun v u s2 x y H2 I2 rx ry q=>ho pins s2 IA H2 x y v u Q I2 rx ry q)
theorem xi {f:Value->Value->Sem Value}{C:Int->Int->Prop}{g:Int->Int->Int}
  (rule:∀(i j:Int) (t u:Tok) (s:Shared) (Q:Value->Shared->Prop) (E:Value->Shared->Prop),C i j->Q (.int (g i j) s.toks) { s with toks:=s.toks+1 }->wpAny (model X.prog X.w) X.A (f (.int i t) (.int j u)) Q E s) :
  dZ X f (rI C fun i j=>.int (g i j)):=by
 intro pins s IA H x y v u Q I rx ry h
 obtain⟨i,j,rfl,rfl,hc,q⟩:=h
 obtain⟨t,rfl⟩:=rx
 obtain⟨t',rfl⟩:=ry
 exact rule i j t t' s _ _ hc ⟨.int (g i j),H,I.tok _,⟨_,rfl⟩,q⟩
theorem EX {f:Value->Value->Sem Value}{g:Int->Int->Int}
  (rule:∀(i j:Int) (t u:Tok) (s:Shared) (Q:Value->Shared->Prop) (E:Value->Shared->Prop),Q (.int (g i j) s.toks) { s with toks:=s.toks+1 }->wpAny (model X.prog X.w) X.A (f (.int i t) (.int j u)) Q E s) :
  dZ X f (vg fun i j=>.int (g i j)):=by
 intro pins s IA H x y v u Q I rx ry h
 obtain⟨i,j,rfl,rfl,q⟩:=h
 obtain⟨t,rfl⟩:=rx
 obtain⟨t',rfl⟩:=ry
 exact rule i j t t' s _ _ ⟨.int (g i j),H,I.tok _,⟨_,rfl⟩,q⟩
theorem Bp {f:Value->Value->Sem Value}{g:Int->Int->Bool}
  (rule:∀(i j:Int) (t u:Tok) (s:Shared) (Q:Value->Shared->Prop) (E:Value->Shared->Prop),Q (.bool (g i j)) s->wpAny (model X.prog X.w) X.A (f (.int i t) (.int j u)) Q E s) :
  dZ X f (vg fun i j=>.bl (g i j)):=by
 intro pins s IA H x y v u Q I rx ry h
 obtain⟨i,j,rfl,rfl,q⟩:=h
 obtain⟨t,rfl⟩:=rx
 obtain⟨t',rfl⟩:=ry
 exact rule i j t t' s _ _ ⟨.bl (g i j),H,I,rfl,q⟩
def Hu (i j:Int):Prop:=0<j/\j<1073741824
def Hv (i j:Int):Prop:=0<=j/\j<=1000000/\i.natAbs<2 ^ 64
def Bq (i j:Int):Prop:=(-(2 ^ 64)<i/\i<2 ^ 64)\/(-(2 ^ 64)<j/\j<2 ^ 64)
theorem Bq.ok {i j:Int}(h:Bq i j):IntMulOk i j:=by
 rcases h with ⟨h1,h2⟩ | ⟨h1,h2⟩
 ·exact .of_left (intBits_le_64 h1 h2)
 ·exact .of_right (intBits_le_64 h1 h2)
theorem du:dZ X (binaryOp .Add) (vg fun i j=>.int (i+j)):=EX fun _ _ _ _ _ _ _ q=>add_int q
theorem gd:dZ X (binaryOp .Sub) (vg fun i j=>.int (i-j)):=EX fun _ _ _ _ _ _ _ q=>sub_int q
theorem kF:dZ X (binaryOp .Mult) (rI Bq fun i j=>.int (i*j)):=xi fun _ _ _ _ _ _ _ hc q=>mul_int q hc.ok
theorem xj:dZ X (binaryOp .FloorDiv) (rI Hu fun i j=>.int (i / j)):=xi fun i j _ _ _ _ _ hc q=>by
 have h1:(0:Int)<j:=hc.1
 have h2:j<1073741824:=hc.2
 exact floordiv_int (by omega) (by rw [Int.fdiv_eq_ediv_of_nonneg i (by omega)];exact q) (.inl (PyProof.noPylong_small (by omega)))
theorem jE:dZ X (binaryOp .Mod) (rI (fun _ j=>0<j) fun i j=>.int (i % j)):=xi fun i j _ _ _ _ _ hc q=>by
 have h1:(0:Int)<j:=hc
 exact mod_int' (by omega) (by rw [Int.fmod_eq_emod_of_nonneg i (by omega)];exact q)
theorem qt:dZ X (binaryOp .Pow) (rI Hv fun i j=>.int (i ^ j.toNat)):=xi fun _ _ _ _ _ _ _ hc q=>pow_int_small hc.1 hc.2.1 hc.2.2 q
end
def Br:V->V->Bool
 | .bg,.bg=>true | .bg,.int _=>true | .int _,.bg=>true | .bg,.bl _=>true | .bl _,.bg=>true | .bg,.str _=>true | .str _,.bg=>true
 | .int _,.int _=>true | .bl _,.bl _=>true | .str _,.str _=>true | .jA _,.jA _=>true
 | .int _,.str _=>true | .str _,.int _=>true | .bl _,.str _=>true | .str _,.bl _=>true
 | _,_=>false
def HY:R2:=fun x y H Q=>Br x y=true/\Q (.bl (decide (x=y))) H
def HZ:R2:=fun x y H Q=>Br x y=true/\Q (.bl (!decide (x=y))) H
theorem xk {i j:Int}:decide (V.int i=V.int j)=(i == j):=by
 rw [Kk]
 simp
theorem zF {i j:Bool}:decide (V.bl i=V.bl j)=(i == j):=by
 rw [Kk]
 simp
theorem xl {i j:Str}:decide (V.str i=V.str j)=(i == j):=by
 rw [Kk]
 simp
theorem xm {i j:Array UInt8}:decide (V.jA i=V.jA j)=(i.toList == j.toList):=by
 rw [Kk]
 cases i
 cases j
 simp
section
variable {X:Cx}{a b c:Expr}{ta tb tc:TE}{pos:Pos}
theorem bV {pins:List (Addr×Obj)}{IA : St}{H:Hp}{s:Shared}{Q:VK}{k k':Bool}(I:Inv X pins IA H s)(q:Q (.bl k) H)(e:k=k'):EP X pins IA Q (.bool k') s:=by
 subst e
 exact⟨.bl k,H,I,rfl,q⟩
theorem cU:dZ X (compareOp .Eq) HY:=by
 intro pins s IA H x y v u Q I rx ry h
 obtain⟨hs,q⟩:=h
 cases x with
 | bg =>
  cases rx
  cases y with
  | bg=>cases ry;exact PySem.EqNone.eq_none_none (bV I q (by simp))
  | bl j=>cases ry;exact PySem.EqNone.eq_none_bool (bV I q (by simp))
  | int j=>obtain⟨t',rfl⟩:=ry;exact PySem.EqNone.eq_none_int (bV I q (by simp))
  | str j=>obtain⟨t',rfl⟩:=ry;exact PySem.EqNone.eq_none_str (bV I q (by simp))
  | _=>exact absurd (show false=true from hs) Je
 | bl i =>
  cases rx
  cases y with
  | bg=>cases ry;exact PySem.EqNone.eq_bool_none (bV I q (by simp))
  | bl j=>cases ry;exact eq_bool (bV I q zF)
  | str j=>obtain⟨t',rfl⟩:=ry;exact PySem.EqMixed.eq_bool_str (bV I q (by simp))
  | _=>exact absurd (show false=true from hs) Je
 | int i =>
  obtain⟨t,rfl⟩:=rx
  cases y with
  | bg=>cases ry;exact PySem.EqNone.eq_int_none (bV I q (by simp))
  | int j=>obtain⟨t',rfl⟩:=ry;exact eq_int (bV I q xk)
  | str j=>obtain⟨t',rfl⟩:=ry;exact PySem.EqMixed.eq_int_str (bV I q (by simp))
  | _=>exact absurd (show false=true from hs) Je
 | str i =>
  obtain⟨t,rfl⟩:=rx
  cases y with
  | bg=>cases ry;exact PySem.EqNone.eq_str_none (bV I q (by simp))
  | bl j=>cases ry;exact PySem.EqMixed.eq_str_bool (bV I q (by simp))
  | int j=>obtain⟨t',rfl⟩:=ry;exact PySem.EqMixed.eq_str_int (bV I q (by simp))
  | str j=>obtain⟨t',rfl⟩:=ry;exact eq_str (bV I q xl)
  | _=>exact absurd (show false=true from hs) Je
 | jA i =>
  obtain⟨t,rfl⟩:=rx
  cases y with
  | jA j=>obtain⟨t',rfl⟩:=ry;exact PySem.W.eq_bytes (bV I q xm)
  | _=>exact absurd (show false=true from hs) Je
 | _=>cases y <;> exact absurd (show false=true from hs) Je
theorem Gp:dZ X (compareOp .NotEq) HZ:=by
 intro pins s IA H x y v u Q I rx ry h
 obtain⟨hs,q⟩:=h
 cases x with
 | bg =>
  cases rx
  cases y with
  | bg=>cases ry;exact PySem.EqNone.ne_none_none (bV I q (by simp))
  | bl j=>cases ry;exact PySem.EqNone.ne_none_bool (bV I q (by simp))
  | int j=>obtain⟨t',rfl⟩:=ry;exact PySem.EqNone.ne_none_int (bV I q (by simp))
  | str j=>obtain⟨t',rfl⟩:=ry;exact PySem.EqNone.ne_none_str (bV I q (by simp))
  | _=>exact absurd (show false=true from hs) Je
 | bl i =>
  cases rx
  cases y with
  | bg=>cases ry;exact PySem.EqNone.ne_bool_none (bV I q (by simp))
  | bl j=>cases ry;exact ne_bool (bV I q (congrArg not zF))
  | str j=>obtain⟨t',rfl⟩:=ry;exact PySem.EqMixed.ne_bool_str (bV I q (by simp))
  | _=>exact absurd (show false=true from hs) Je
 | int i =>
  obtain⟨t,rfl⟩:=rx
  cases y with
  | bg=>cases ry;exact PySem.EqNone.ne_int_none (bV I q (by simp))
  | int j=>obtain⟨t',rfl⟩:=ry;exact ne_int (bV I q (congrArg not xk))
  | str j=>obtain⟨t',rfl⟩:=ry;exact PySem.EqMixed.ne_int_str (bV I q (by simp))
  | _=>exact absurd (show false=true from hs) Je
 | str i =>
  obtain⟨t,rfl⟩:=rx
  cases y with
  | bg=>cases ry;exact PySem.EqNone.ne_str_none (bV I q (by simp))
  | bl j=>cases ry;exact PySem.EqMixed.ne_str_bool (bV I q (by simp))
  | int j=>obtain⟨t',rfl⟩:=ry;exact PySem.EqMixed.ne_str_int (bV I q (by simp))
  | str j=>obtain⟨t',rfl⟩:=ry;exact ne_str (bV I q (congrArg not xl))
  | _=>exact absurd (show false=true from hs) Je
 | jA i =>
  obtain⟨t,rfl⟩:=rx
  cases y with
  | jA j=>obtain⟨t',rfl⟩:=ry;exact PySem.W.ne_bytes (bV I q (congrArg not xm))
  | _=>exact absurd (show false=true from hs) Je
 | _=>cases y <;> exact absurd (show false=true from hs) Je
theorem jj:dZ X (compareOp .Lt) (vg fun i j=>.bl (decide (i<j))):=Bp fun _ _ _ _ _ _ _ q=>lt_int q
theorem ox:dZ X (compareOp .LtE) (vg fun i j=>.bl (decide (i<=j))):=Bp fun _ _ _ _ _ _ _ q=>le_int q
theorem qu:dZ X (compareOp .Gt) (vg fun i j=>.bl (decide (j<i))):=Bp fun _ _ _ _ _ _ _ q=>gt_int q
theorem aZ (b:Expr){op:CmpOp}(h:op≠.In:=by decide)(h2:op≠.NotIn:=by decide):behindInMarks op b=false:=by
 have e1:(op == CmpOp.In)=false:=by cases op <;> first | rfl | exact absurd rfl h
 have e2:(op == CmpOp.NotIn)=false:=by cases op <;> first | rfl | exact absurd rfl h2
 cases b <;> simp [behindInMarks,e1,e2]
theorem iA {op:CmpOp}{r:R2}(ho:dZ X (compareOp op) r)(ha:PE X a ta)(hb:PE X b tb)(hm:behindInMarks op b=false):PE X (.Compare a [op] [b] pos) (zE r ta tb):=by
 intro pins s IA H Q I h
 exact wpAny_Compare1 (Bo ha hb I h fun v u s2 x y H2 I2 rx ry q=>ho pins s2 IA H2 x y v u Q I2 rx ry q) hm
inductive Bt (Q:(Bool->Hp->Prop)) (x:V) (H':Hp):Prop
 | mk (k:_) (_:x=.bl k) (_:Q k H')
def C1 (t:TE):TT:=fun IA H Q=>t IA H fun x H'=>Bt Q x H'
theorem aR {op:CmpOp}{r:R2}(ho:dZ X (compareOp op) r)(ha:PE X a ta)(hb:PE X b tb)(hm:behindInMarks op b=false):PT X (.Compare a [op] [b] pos) (C1 (zE r ta tb)):=by
 intro pins s IA H Q I h
 refine wpAny_isTrue_Compare1 (aX (ha pins s IA H _ I h) fun v s1 ⟨x,H1,I1,r1,q1⟩=>aX (hb pins s1 IA H1 _ I1 q1) fun u s2 ⟨y,H2,I2,r2,q2⟩ =>
  aX (ho pins s2 IA H2 x y v u _ I2 r1 r2 q2) fun c s3 ⟨z,H3,I3,r3,k,e,q3⟩=>?_) hm
 subst e
 cases r3
 exact Lz ⟨H3,I3,q3⟩
inductive zG (r':R2) (tc:TE) (IA : St) (Q:VK) (y:V) (z:V) (H3:Hp):Prop
 | mk (k:_) (_:z=.bl k) (_:(if k=true then tc IA H3 fun w' H4=>r' y w' H4 Q else Q (.bl false) H3))
def EY (r r':R2)(ta tb tc:TE):TE:=fun IA H Q=>ta IA H fun x H1=>tb IA H1 fun y H2=>r x y H2 fun z H3=>zG r' tc IA Q y z H3
theorem Bu {op op':CmpOp}{r r':R2}(ho:dZ X (compareOp op) r)(ho':dZ X (compareOp op') r')(ha:PE X a ta)(hb:PE X b tb)(hc:PE X c tc)
  (hm:lastMarks [op,op'] [b,c]=false:=by with_unfolding_all rfl):PT X (.Compare a [op,op'] [b,c] pos) (C1 (EY r r' ta tb tc)):=by
 intro pins s IA H Q I h
 refine isTrue_chain (aX (ha pins s IA H _ I h) fun v s1 ⟨x,H1,I1,r1,q1⟩=>test_link (aX (hb pins s1 IA H1 _ I1 q1) fun u s2 ⟨y,H2,I2,r2,q2⟩ =>
  aX (ho pins s2 IA H2 x y v u _ I2 r1 r2 q2) fun d s3 ⟨z,H3,I3,r3,k,e,q3⟩=>?_)) hm
 subst e
 cases r3
 refine Lz ?_
 cases k with
 | false =>
  obtain⟨k',e',q'⟩:=q3
  cases e'
  exact ite_ff ⟨H3,I3,q'⟩
 | true =>
  refine ite_tt (test_last (aX (hc pins s3 IA H3 _ I3 q3) fun w' s4 ⟨z',H4,I4,r4,q4⟩=>aX (ho' pins s4 IA H4 y z' u w' _ I4 r2 r4 q4) fun d' s5 ⟨z2,H5,I5,r5,k2,e2,q5⟩=>?_))
  subst e2
  cases r5
  exact Lz ⟨H5,I5,q5⟩
def EZ (K:IC)(x:V)(H:Hp)(k:Bool):Prop :=
 match x with
 | .bg=>k=false
 | .bl b=>k=b
 | .int i=>k=(i != 0)
 | .str y=>y.length<=sizeLine/\k=((y.length:Int) != 0)
 | .jA y=>y.size<=sizeLine/\k=((y.size:Int) != 0)
 | .ref p=>(∃xs,aO K H p xs/\k = !xs.isEmpty)\/(∃xs,aw K H p xs/\k = !xs.isEmpty)\/∃kvs,H p=some (.dK kvs)/\k = !kvs.isEmpty
 | _=>False
theorem yx {κ : Type}{kvs:List (κ×V)}{vs:List (κ×Value)}(r:KV kvs vs):(!vs.isEmpty) = !kvs.isEmpty:=by
 cases r <;> rfl
theorem qw {xs:List V}{its:List Value}(r:Vals xs its):(!its.toArray.isEmpty) = !xs.isEmpty:=by
 cases r <;> simp
theorem jF:(sizeLine:Nat)<2 ^ 63:=by rw [sizeLine_eq];decide
theorem E1:Ht X (fun x H Q=>∃k,EZ X.K x H k/\Q k H):=by
 intro pins s IA H x v Q I rx h
 obtain⟨k,e,q⟩:=h
 have hl:=jF
 have hs:sizeLine=16777216:=sizeLine_eq
 cases x with
 | bg =>
  cases rx
  have e':k=false:=e
  subst e'
  exact truthy_none ⟨H,I,q⟩
 | bl b =>
  cases rx
  have e':k=b:=e
  subst e'
  exact Lz ⟨H,I,q⟩
 | int i =>
  obtain⟨t,rfl⟩:=rx
  have e':k=(i != 0):=e
  subst e'
  exact PySem.P.truthy_int ⟨H,I,q⟩
 | str y =>
  obtain⟨t,rfl⟩:=rx
  obtain⟨hy,e'⟩:y.length<=sizeLine/\k=((y.length:Int) != 0):=e
  subst e'
  exact PySem.P.truthy_str (by omega) ⟨H,I.tok _,q⟩
 | jA y =>
  obtain⟨t,rfl⟩:=rx
  obtain⟨hy,e'⟩:y.size<=sizeLine/\k=((y.size:Int) != 0):=e
  subst e'
  exact PySem.W.truthy_bytes (by omega) ⟨H,I.tok _,q⟩
 | ref p =>
  cases rx
  have e':(∃xs,aO X.K H p xs/\k = !xs.isEmpty)\/(∃xs,aw X.K H p xs/\k = !xs.isEmpty)\/∃kvs,H p=some (.dK kvs)/\k = !kvs.isEmpty:=e
  rcases e' with ⟨xs,hx,e'⟩ | ⟨xs,hx,e'⟩ | ⟨kvs,hx,e'⟩
  ·subst e'
   obtain⟨its,r,pl,hz⟩:=I.list hx
   have hlen:=r.length
   exact wpAny_truthy_list pl.isList (by simp only [IX];omega) ⟨H,I.tok _,by rw [qw r];exact q⟩
  ·subst e'
   obtain⟨its,r,pl,hz⟩:=I.tuple hx
   have hlen:=r.length
   exact truthy_tuple pl (by simp only [IX];omega) ⟨H,I.tok _,by rw [qw r];exact q⟩
  ·subst e'
   obtain⟨hz,hS,vs,r,m⟩:kvs.length<=sizeLine/\(p == sysModules)=false/\∃vs,KV kvs vs/\s.heap.DictOf (aT X.prog X.w) p vs:=I.aN p _ hx
   have hlen:kvs.length=vs.length:=Paired.length r
   exact wpAny_truthy_dict hS m (by omega) ⟨H,I.tok _,by rw [yx r];exact q⟩
 | _=>exact (show False from e).elim
theorem Bv (ha:PE X a ta)(he:∀whole,isTrue a X.env whole=(do let v <-whole;standAt a.pos;holding [v] (truthy v))) :
  PT X a (fun IA H Q=>ta IA H fun x H'=>∃k,EZ X.K x H' k/\Q k H'):=by
 intro pins s IA H Q I h
 exact isTrue_plain (aX (ha pins s IA H _ I h) fun v s1 ⟨x,H1,I1,r1,q1⟩=>E1 pins s1 IA H1 x v Q I1 r1 q1) (he _)
theorem vals1 {x:V}{us:List Value}(r:Vals [x] us):∃u,us=[u]/\RelV x u:=by
 cases r with
 | cons r1 r2=>cases r2;exact⟨_,rfl,r1⟩
theorem vals2 {x y:V}{us:List Value}(r:Vals [x,y] us):∃u w',us=[u,w']/\RelV x u/\RelV y w':=by
 cases r with
 | cons r1 r2 =>
  cases r2 with
  | cons r3 r4=>cases r4;exact⟨_,_,rfl,r1,r3⟩
theorem zH (hc:X.calm=true):dU X (.builtin "max") (fun xs H Q=>∃i j,xs=[.int i,.int j]/\Q (.int (if j > i then j else i)) H):=by
 intro pins s IA H xs us Q I r h
 obtain⟨i,j,rfl,q⟩:=h
 obtain⟨u,w',rfl,⟨t,rfl⟩,⟨t',rfl⟩⟩:=vals2 r
 refine max_two_ints (I.ok.hd hc) fun h' tk k=>⟨_,H,I.kept k,?_,q⟩
 by_cases hj:j > i
 ·rw [if_pos hj,if_pos hj];exact⟨_,rfl⟩
 ·rw [if_neg hj,if_neg hj];exact⟨_,rfl⟩
theorem tN (hc:X.calm=true):dU X (.builtin "min") (fun xs H Q=>∃i j,xs=[.int i,.int j]/\Q (.int (if j<i then j else i)) H):=by
 intro pins s IA H xs us Q I r h
 obtain⟨i,j,rfl,q⟩:=h
 obtain⟨u,w',rfl,⟨t,rfl⟩,⟨t',rfl⟩⟩:=vals2 r
 refine min_two_ints (I.ok.hd hc) fun h' tk k=>⟨_,H,I.kept k,?_,q⟩
 by_cases hj:j<i
 ·rw [if_pos hj,if_pos hj];exact⟨_,rfl⟩
 ·rw [if_neg hj,if_neg hj];exact⟨_,rfl⟩
theorem zI:dU X (.type "int") (fun xs H Q=>(∃i,xs=[.int i]/\Q (.int i) H)\/∃k,xs=[.bl k]/\Q (.int (if k then 1 else 0)) H):=by
 intro pins s IA H xs us Q I r h
 rcases h with ⟨i,rfl,q⟩ | ⟨k,rfl,q⟩
 ·obtain⟨u,rfl,t,rfl⟩:=vals1 r
  exact call_int_int ⟨.int i,H,I,⟨_,rfl⟩,q⟩
 ·obtain⟨u,rfl,r1⟩:=vals1 r
  cases r1
  exact call_int_bool ⟨.int (if k then 1 else 0),H,I.tok _,⟨_,rfl⟩,q⟩
end
structure pL (h:Heap) (x dx C:Addr) (mA:Str->Option Value):Prop where
 obj:h.get? x=some (JO C dx)
 ns:h.Ns1 dx mA
 ne:dx≠x
theorem zJ {h:Heap}{dx:Addr}{mA:Str->Option Value}(n:h.Ns1 dx mA):∃od,h.get? dx=some od/\∀name,KD name od=some (mA name):=by
 obtain⟨o,es,ep,ho,hd,hk,_,hm⟩:=n
 refine⟨o,ho,fun name=>?_⟩
 have e:=hm name
 unfold nsFind findBy at e
 rw [<-Array.find?_toList] at e
 unfold KD
 rw [hd]
 dsimp only
 split
 ·rename_i y q
  rw [q] at e
  exact congrArg some e
 ·rename_i q
  rw [q] at e
  have a:es.toList.any (·.refKey)=false:=by
   rw [List.any_eq_false]
   intro y hy
   obtain⟨z,t,hkey⟩:=hk y (Array.mem_toList_iff.mp hy)
   simp [DictEntry.refKey,hkey]
  have a':¬es.toList.any (·.refKey)=true:=by rw [a];exact Je
  rw [if_neg a']
  exact congrArg some e
theorem pL.look {h:Heap}{x dx C:Addr}{mA:Str->Option Value}(I:pL h x dx C mA):∃od,PySem.W.InstAt h x (JO C dx) C (some od)/\∀name,KD name od=some (mA name) :=
 let ⟨od,ho,hl⟩:=zJ I.ns
 ⟨od,⟨I.obj,rfl,rfl,ho⟩,hl⟩
section
variable {prog:Program}{w:World}{A:Around}{E:Value->Shared->Prop}{s:Shared}{K:IC}{x dx C f:Addr}{mA:Str->Option Value}{name:Str}{v:Value}
theorem get_map {expr:Bool}{Q:Value->Shared->Prop}(X:K.In s.heap)(I:pL s.heap x dx C mA)(hg:Ka K C name=true)(hh:Kl K C=true)
  (ha:Jf K (.ref C) name=some none) (hv:mA name=some v) (hv':PySem.W.handedIn v=true) (h:Q v { s with toks:=s.toks+1 }) :
  wpAny (model prog w) A (getAttr (.ref x) name expr) Q E s:=by
 obtain⟨od,J,hl⟩:=I.look
 exact PySem.W.get_value X J (Le hg).1 (PySem.W.findObj_own hh ha rfl (by rw [hl,hv])) hv' h
theorem Bw {pl:Sem Bool}{Q:Value×List Value->Shared->Prop}(X:K.In s.heap)(I:pL s.heap x dx C mA)(hg:Ka K C name=true)
  (hf:Jf K (.ref C) name=some (some (.ref f))) (ht:Km K (.ref f)=true) (hv:mA name=none) (h:Q (.ref f,[.ref x]) s) :
  wpAny (model prog w) A (getMethod (.ref x) name pl) Q E s:=by
 obtain⟨od,J,hl⟩:=I.look
 exact PySem.W.method_fn X J (Le hg).1 (Le hg).2 hf (beq_iff_eq.mp ht) (by show (KD name od).map (·.isSome)=some false;rw [hl,hv];rfl) h
theorem DC {ns:List Str}{Q:Unit->Shared->Prop}(X:K.In s.heap)(I:pL s.heap x dx C mA)
  (hs:Jf K (.ref C) "__setattr__" = some (some (.builtin "object.__setattr__"))) (hp:KG K C=true) (ht:PySem.W.takerIn K C name=some none) (hh:Kl K C=true)
  (hw:PySem.Within mA ns) (hsz:ns.length<=sizeLine)
  (h:∀h',pL h' x dx C (fun y=>if y=name then some v else mA y)->Jk dx s.heap h'->Q () { s with heap:=h',toks:=s.toks+2 }) :
  wpAny (model prog w) A (setAttr (.ref x) name v) Q E s:=by
 obtain⟨od,J,hl⟩:=I.look
 refine PySem.W.set_plain X J hs (PySem.W.osa_open (s:={ s with toks:=s.toks+1 }) (r:=none) X J hp ht fun b=>?_)
 obtain⟨cd,hc,hd'⟩:=PySem.W.any_some hh
 have hx:s.heap.get? x=some ⟨.ref C,some dx,.plain,#[]⟩:=I.obj
 refine Lo (Lq (Lo (Lo (wpAny_loadPart hx (Lo (PySem.W.Looks.here (s:={ s with toks:=s.toks+1 }) (PySem.W.looks_clsIn X hc) ?_))))))
 rw [hd']
 refine Lq (a:=some dx) (Lo (Lq (Lo ?_)))
 refine wpAny_nsSet1 (s:={ s with toks:=s.toks+1 }) I.ns fun h' hn2 hs2=>?_
 obtain⟨oD,esD,epD,hoD,hdD,hcD⟩:=hn2.count (PySem.Within.cons name v hw)
 refine Lo (wpAny_lookBehind hoD (by rw [hdD];exact pastItsLine_dict (IQ hcD (by rw [Jr];omega))) ?_)
 exact Lq (h _ ⟨(hs2.2 _ (Ne.symm I.ne)).trans I.obj,hn2,I.ne⟩ hs2)
theorem Bx {R:Result->Shared->Prop}{vs:List Value}{kw:List (Str×Value)}(X:K.In s.heap)(hm:Kb K C=true)
  (hi:Jf K (.ref C) "__init__" = some (some (.ref f))) (hf:PySem.W.typeIn K (.ref f)=some (.type "function"))
  (h:codeAny (model prog w) (A.under (.builtin "type.__call__" ⟨.ref C::vs,kw⟩)) (.call (.ref f) ⟨.ref (s.heap.objs.size+1)::vs,kw⟩) (PySem.W.InitBack (s.heap.objs.size+1) R)
   { s with heap:=(s.heap.push JH).push (JO C s.heap.objs.size) }) :
  codeAny (model prog w) A (.call (.ref C) ⟨vs,kw⟩) R s:=by
 obtain⟨hh,g,d,t,os⟩:=s
 exact PySem.W.make_core (PySem.W.makes_of X hm) (PySem.W.looks_findIn X hi) (fun self=>PySem.W.bind_fn X self hf) (.inl rfl) h
end
def cF (f:Str)(v:V):List (Str×V)->List (Str×V)
 | []=>[(f,v)]
 | (g,x)::r=>if g=f then (g,v)::r else (g,x)::cF f v r
theorem oX (f g:Str)(v:V):∀fs:List (Str×V),(cF f v fs).lookup g=if g=f then some v else fs.lookup g
 | []=>by
  show JE g [(f,v)]=_
  by_cases h:g=f
  ·have hb:(g == f)=true:=beq_iff_eq.mpr h
   simp only [JE,hb,if_pos h]
  ·have hb:(g == f)=false:=beq_eq_false_iff_ne.mpr h
   simp only [JE,hb,if_neg h]
 | (k,x)::r=>by
  have ih:=oX f g v r
  rw [show cF f v ((k,x)::r)=(if k=f then (k,v)::r else (k,x)::cF f v r) from rfl]
  by_cases hk:k=f
  ·rw [if_pos hk]
   by_cases h:g=k
   ·have hb:(g == k)=true:=beq_iff_eq.mpr h
    simp only [JE,hb,if_pos (h.trans hk)]
   ·have hb:(g == k)=false:=beq_eq_false_iff_ne.mpr h
    simp only [JE,hb,if_neg (fun e:g=f=>h (e.trans hk.symm))]
  ·rw [if_neg hk]
   by_cases h:g=k
   ·have hb:(g == k)=true:=beq_iff_eq.mpr h
    simp only [JE,hb,if_neg (fun e:g=f=>hk (h.symm.trans e))]
   ·have hb:(g == k)=false:=beq_eq_false_iff_ne.mpr h
    simp only [JE,hb]
    exact ih
theorem mT (f:Str)(v:V):∀fs:List (Str×V),f∈(cF f v fs).map (·.1)/\∀g,g∈fs.map (·.1)->g∈(cF f v fs).map (·.1)
 | []=>⟨by simp [cF],fun g h=>by simp at h⟩
 | (k,x)::r=>by
  obtain⟨i1,i2⟩:=mT f v r
  rw [show cF f v ((k,x)::r)=(if k=f then (k,v)::r else (k,x)::cF f v r) from rfl]
  by_cases hk:k=f
  ·rw [if_pos hk]
   subst hk
   exact⟨by simp,fun g h=>by simpa using h⟩
  ·rw [if_neg hk]
   refine⟨?_,fun g h=>?_⟩
   ·rw [Jj]
    exact IM _ i1
   ·rw [Jj] at h ⊢
    rcases IE.mp h with e | e
    ·exact IE.mpr (.inl e)
    ·exact IM _ (i2 g e)
theorem oY (f:Str)(v:V):∀fs:List (Str×V),(cF f v fs).length<=fs.length+1
 | []=>by simp [cF]
 | (k,x)::r=>by
  have ih:=oY f v r
  rw [show cF f v ((k,x)::r)=(if k=f then (k,v)::r else (k,x)::cF f v r) from rfl]
  by_cases hk:k=f
  ·rw [if_pos hk,Jr,Jr];omega
  ·rw [if_neg hk,Jr,Jr];omega
theorem fm.some_of {v:V}{o:Option Value}(r:fm (some v) o):∃u,o=some u/\RelV v u:=by
 cases o with
 | none=>exact (show False from r).elim
 | some u=>exact⟨u,rfl,r⟩
theorem fm.none_of {o:Option Value}(r:fm none o):o=none:=by
 cases o with
 | none=>rfl
 | some u=>exact (show False from r).elim
theorem zK {v:V}{u:Value}(r:RelV v u):PySem.W.handedIn u=true:=by
 cases v with
 | bg=>cases (show u=Value.none from r);rfl
 | bl b=>cases (show u=Value.bool b from r);rfl
 | int i=>obtain⟨t,e⟩:=(show ∃t,u=Value.int i t from r);cases e;rfl
 | str x=>obtain⟨t,e⟩:=(show ∃t,u=Value.str x t from r);cases e;rfl
 | jA b=>obtain⟨t,e⟩:=(show ∃t,u=Value.bytes b t from r);cases e;rfl
 | zx b=>obtain⟨t,e⟩:=(show ∃t,u=Value.float b t from r);cases e;rfl
 | ref a=>cases (show u=Value.ref a from r);rfl
 | ty n=>cases (show u=Value.type n from r);rfl
section
variable {P:Program}{w:World}{H H':Hp}{h h':Heap}{a C dx:Addr}{fs fs':List (Str×V)}
theorem sg (aN:di P w H h)(e:H a=some (.ins C dx fs)):∃mA,pL h a dx C mA/\(∀f,fm (fs.lookup f) (mA f))/\PySem.Within mA (fs.map (·.1))/\fs.length<=1000/\H dx=some (.own a):=by
 obtain⟨d,z,ne,ob,mA,n,r,q⟩:=(show bN P w H h a (.ins C dx fs) from aN a _ e)
 exact⟨mA,⟨ob,n,ne⟩,r,q,z,d⟩
end
structure jG (K:IC) (C:Addr):Prop where
 pg:Ka K C Str.empty=true
 hd:Kl K C=true
 po:KG K C=true
 sa:Jf K (.ref C) "__setattr__" = some (some (.builtin "object.__setattr__"))
theorem jG.get {K:IC}{C:Addr}(c:jG K C)(f:Str):Ka K C f=true:=c.pg
def eh (K:IC)(C:Addr)(f:Str):Prop:=Jf K (.ref C) f=some none
theorem eh.Gq {K:IC}{C:Addr}{f:Str}(n:eh K C f):PySem.W.takerIn K C f=some none:=by
 unfold PySem.W.takerIn
 rw [show Jf K (.ref C) f=some none from n]
 rfl
structure Meth (K:IC) (C:Addr) (m:Str) (f:Addr):Prop where
 at_:Jf K (.ref C) m=some (some (.ref f))
 fn:Km K (.ref f)=true
 kp:JC K (.ref f)=true
section
variable {X:Cx}{pins:List (Addr×Obj)}{IA : St}{H:Hp}{s:Shared}{a C dx:Addr}{fs:List (Str×V)}{f:Str}{v:V}{A:Around}{E:Value->Shared->Prop}
theorem qx {b:Bool}{Q:Value->Shared->Prop}(I:Inv X pins IA H s)(e:H a=some (.ins C dx fs))(c:jG X.K C)(n:eh X.K C f)(l:fs.lookup f=some v)
  (h:∀u s',Inv X pins IA H s'->RelV v u->Q u s'):wpAny (model X.prog X.w) A (getAttr (.ref a) f b) Q E s:=by
 obtain⟨mA,O,r,_,_,_⟩:=sg I.aN e
 obtain⟨u,hu,ru⟩:=fm.some_of (v:=v) (o:=mA f) (by rw [<-l];exact r f)
 exact get_map I.fY O (c.get f) c.hd n hu (zK ru) (h u _ (I.tok _) ru)
theorem qy {m:Str}{g:Addr}{pl:Sem Bool}{Q:Value×List Value->Shared->Prop}(I:Inv X pins IA H s)(e:H a=some (.ins C dx fs))(c:jG X.K C)(k:Meth X.K C m g)(l:fs.lookup m=none)
  (h:Q (.ref g,[.ref a]) s):wpAny (model X.prog X.w) A (getMethod (.ref a) m pl) Q E s:=by
 obtain⟨mA,O,r,_,_,_⟩:=sg I.aN e
 have hn:mA m=none:=fm.none_of (by rw [<-l];exact r m)
 exact Bw I.fY O (c.get m) k.at_ k.fn hn h
theorem lB {y:V}{u:Value}{Q:Unit->Shared->Prop}(I:Inv X pins IA H s)(e:H a=some (.ins C dx fs))(c:jG X.K C)(n:eh X.K C f)(hl:fs.length<1000)(ry:RelV y u)
  (h:∀s',Inv X pins IA (upd H a (.ins C dx (cF f y fs))) s'->Q () s'):wpAny (model X.prog X.w) A (setAttr (.ref a) f u) Q E s:=by
 obtain⟨mA,O,r,wi,_,ho⟩:=sg I.aN e
 have hz:(fs.map (·.1)).length<=sizeLine:=by rw [ID,sizeLine_eq];omega
 refine DC I.fY O c.sa c.po n.Gq c.hd wi hz fun h' O' sb=>h _ ?_
 have hd:∃o,h'.get? dx=some o:=let ⟨o,_,_,e',_⟩:=O'.ns;⟨o,e'⟩
 refine I.write (x:=a) (e:=dx) (by rw [e];exact True.intro) (.inr ho) (fun b q hb z=>(sb.2 b hb).trans z) hd ?_
 refine⟨by rw [ao O.ne];exact ho,?_,O.ne,O'.obj,_,O'.ns,fun g=>?_,fun g hg=>?_⟩
 ·have:=oY f y fs;omega
 ·show fm ((cF f y fs).lookup g) (if g=f then some u else mA g)
  rw [oX]
  by_cases q:g=f
  ·rw [if_pos q,if_pos q];exact ry
  ·rw [if_neg q,if_neg q];exact r g
 ·by_cases q:g=f
  ·rw [q];exact (mT f y fs).1
  ·refine (mT f y fs).2 g (wi g fun z=>hg ?_)
   show (if g=f then some u else mA g)=none
   rw [if_neg q];exact z
theorem Inv.made (I:Inv X pins IA H s):Inv X pins IA (upd (upd H s.heap.objs.size (.own (s.heap.objs.size+1))) (s.heap.objs.size+1) (.ins C s.heap.objs.size []))
  { s with heap:=(s.heap.push JH).push (JO C s.heap.objs.size) }:=by
 have e1:(s.heap.push JH).get? s.heap.objs.size=some JH:=IK s.heap rfl
 have e2:((s.heap.push JH).push (JO C s.heap.objs.size)).get? (s.heap.objs.size+1)=some (JO C s.heap.objs.size):=by
  have:=IK (s.heap.push JH) (o:=JO C s.heap.objs.size) rfl
  rwa [Jh] at this
 have e3:(s.heap.push JH).Ns s.heap.objs.size (fun _=>none):=⟨JH,#[],_,e1,rfl,(fun e he=>absurd he (by simp)),fun _=>rfl⟩
 have I1:=I.laid (a:=s.heap.objs.size) (o:=.own (s.heap.objs.size+1)) (h':=s.heap.push JH) (t':=s.toks) (fun b u q=>II _ q) (IF _) ⟨_,e1⟩
 refine I1.laid (a:=s.heap.objs.size+1) (o:=.ins C s.heap.objs.size []) (t':=s.toks) (fun b u q=>II _ q) (Nat.le_of_eq (Jh _ _)) ?_
 have ne:s.heap.objs.size≠s.heap.objs.size+1:=IL (JD _)
 refine⟨by rw [ao ne,aa],Jc _,ne,e2,fun _=>none,(Heap.Ns1.of_empty e3).at fun o q=>II _ q,fun _=>True.intro,fun y hy=>absurd rfl hy⟩
theorem DD {prog:Program}{w:World}{env:Env}{e:Expr}{f:Str}{pos:Pos}{s:Shared}{Q:Value->Shared->Prop}(hb:attributeBase e f env (eval e env)=eval e env)
  (h:wpAny (model prog w) A (eval e env) (fun o s₁=>wpAny (model prog w) A (getAttr o f true) Q E s₁) E s):wpAny (model prog w) A (eval (.Attribute e f pos) env) Q E s :=
 Attribute_any_ h (by rw [arm_eval_Attribute,hb])
end
inductive DE (K:IC) (f:Str) (Q:VK) (x:V) (H1:Hp):Prop
 | mk (a C dx fs v:_) (_:x=.ref a) (_:H1 a=some (.ins C dx fs)) (_:jG K C) (_:eh K C f) (_:fs.lookup f=some v) (_:Q v H1)
def E3 (K:IC)(ta:TE)(f:Str):TE:=fun IA H Q=>ta IA H fun x H1=>DE K f Q x H1
inductive DF (K:IC) (f:Str) (D:Ends) (IA : St) (y:V) (x:V) (H2:Hp):Prop
 | mk (a C dx fs:_) (_:x=.ref a) (_:H2 a=some (.ins C dx fs)) (_:jG K C) (_:eh K C f) (_:fs.length<1000) (_:D.nx IA (upd H2 a (.ins C dx (cF f y fs))))
def Hw (K:IC)(ta tv:TE)(f:Str):TS:=fun D IA H=>tv IA H fun y H1=>ta IA H1 fun x H2=>DF K f D IA y x H2
def E4 (X:Cx)(op:Operator)(rd:V->V->Hp->VK->Prop):Prop :=
 ∀(pins:List (Addr×Obj)) (s:Shared) (IA : St) (H:Hp) (x y:V) (u v:Value) (Q:VK),Inv X pins IA H s->RelV x u->RelV y v->rd x y H Q->wpAny (model X.prog X.w) X.A (inplaceOp op u v) (EP X pins IA Q) X.xe s
inductive yy (f:Str) (D:Ends) (IA : St) (a:Addr) (C:Addr) (z:V) (H3:Hp):Prop
 | mk (dx' fs':_) (_:H3 a=some (.ins C dx' fs')) (_:fs'.length<1000) (_:D.nx IA (upd H3 a (.ins C dx' (cF f z fs'))))
inductive yz (K:IC) (tv:TE) (rd:V->V->Hp->VK->Prop) (f:Str) (D:Ends) (IA : St) (x:V) (H1:Hp):Prop
 | mk (a C dx fs v:_) (_:x=.ref a) (_:H1 a=some (.ins C dx fs)) (_:jG K C) (_:eh K C f) (_:fs.lookup f=some v) (_:tv IA H1 fun y H2=>rd v y H2 fun z H3=>yy f D IA a C z H3)
def DG (K:IC)(ta tv:TE)(rd:V->V->Hp->VK->Prop)(f:Str):TS:=fun D IA H=>ta IA H fun x H1=>yz K tv rd f D IA x H1
section
variable {X:Cx}{o e value:Expr}{f:Str}{pos pos' tpos:Pos}{ta tv:TE}
theorem cS (he:PE X e ta)(hb:attributeBase e f X.env (eval e X.env)=eval e X.env):PE X (.Attribute e f pos) (E3 X.K ta f):=by
 intro pins s IA H Q I h
 refine DD hb (aX (he pins s IA H _ I h) fun u s1 ⟨x,H1,I1,rx,a,C,dx,fs,v,ex,ea,c,n,l,q⟩=>?_)
 subst ex
 obtain rfl:u=Value.ref a:=rx
 exact qx I1 ea c n l fun u' s2 I2 ru=>⟨v,H1,I2,ru,q⟩
theorem gf (ha:PE X o ta)(hv:PE X value tv)(hs:swapsWith value (some (.Attribute o f pos')) pos.line X.env=pure false):PS X (.Assign [.Attribute o f pos'] value pos) (Hw X.K ta tv f):=by
 intro pins s IA H D I h
 refine plainObj_wpAny_Assign_Attribute (aX (hv pins s IA H _ I h) fun u s1 ⟨y,H1,I1,ry,q⟩=>aX (ha pins s1 IA H1 _ I1 q) fun ov s2 ⟨x,H2,I2,rx,a,C,dx,fs,ex,ea,c,n,l,q2⟩=>?_) hs
 subst ex
 obtain rfl:ov=Value.ref a:=rx
 exact lB I2 ea c n l ry fun s3 I3=>⟨IA,_,I3,q2⟩
theorem zL {op:Operator}{rd:V->V->Hp->VK->Prop}(ha:PE X o ta)(hv:PE X value tv)(hop:E4 X op rd):PS X (.AugAssign (.Attribute o f tpos) op value pos) (DG X.K ta tv rd f):=by
 intro pins s IA H D I h
 refine wpAny_AugAssign_AttributeAny (aX (ha pins s IA H _ I h) fun ov s1 ⟨x,H1,I1,rx,a,C,dx,fs,v,ex,ea,c,n,l,q⟩=>?_)
 subst ex
 obtain rfl:ov=Value.ref a:=rx
 refine qx I1 ea c n l fun u s2 I2 ru=>aX (hv pins s2 IA H1 _ I2 q) fun w3 s3 ⟨y,H2,I3,ry,q3⟩=>aX (hop pins s3 IA H2 v y u w3 _ I3 ru ry q3) fun w4 s4 ⟨z,H3,I4,rz,dx',fs',ea',l',q4⟩=>?_
 exact lB I4 ea' c n l' rz fun s5 I5=>⟨IA,_,I5,q4⟩
inductive Hx  (x:V) (y:V) (H:Hp) (Q:VK):Prop
 | mk (i j:_) (_:x=.int i) (_:y=.int j) (_:Q (.int (i+j)) H)
theorem E5:E4 X .Add Hx:=by
 rintro pins s IA H x y u v Q I rx ry ⟨i,j,rfl,rfl,q⟩
 obtain⟨t,rfl⟩:=(show ∃t,u=Value.int i t from rx)
 obtain⟨t',rfl⟩:=(show ∃t',v=Value.int j t' from ry)
 exact PyProof.Rows.iadd_int ⟨.int (i+j),H,I.tok _,⟨_,rfl⟩,q⟩
end
section
variable {X:Cx}{pins:List (Addr×Obj)}{IA : St}{H:Hp}{s:Shared}{A:Around}{E:Value->Shared->Prop}{Q:Value->Shared->Prop}{c:Value}{b:Bool}
end
structure cG (k:Nat) (A:Around):Prop where
 hd:A.handled=none
 dp:A.depth+3*k+5<recursionLimit
 un:A.units+16*k+200<cLine
theorem cG.mono {j k:Nat}{A:Around}(r:cG k A)(h:j<=k):cG j A:=⟨r.hd,by have:=r.dp;omega,by have:=r.un;omega⟩
theorem cG.deeper {k:Nat}{A:Around}(r:cG (k+1) A)(env:Env):cG k (A.deeper env) :=
 ⟨r.hd,by have:=r.dp;show A.depth+1+3*k+5<_;omega,by have:=r.un;show A.units+3+16*k+200<_;omega⟩
theorem yA {A:Around} {C:Addr} {us:List Value} {kw:List (Str×Value)}:(A.under (.builtin "type.__call__" ⟨.ref C::us,kw⟩)).depth=A.depth+1:=by
 first | rfl | simp [Around.under,Code.weight,Code.isCreation,Code.isGuard,Code.isCaller,Code.frames,Code.isFrame,guardIds]
theorem yB {A:Around} {C:Addr} {us:List Value} {kw:List (Str×Value)}:(A.under (.builtin "type.__call__" ⟨.ref C::us,kw⟩)).units=A.units+1:=by
 first | rfl | simp [Around.under,Code.cUnits,Code.frames,Code.isFrame]
theorem cG.make {k:Nat} {A:Around} (r:cG (k+1) A) (C:Addr) (us:List Value) (kw:List (Str×Value)):cG k (A.under (.builtin "type.__call__" ⟨.ref C::us,kw⟩)) :=
 ⟨r.hd,by have:=r.dp;rw [yA];omega,by have:=r.un;rw [yB];omega⟩
theorem cG.depth {k:Nat}{A:Around}(r:cG k A):A.depth<recursionLimit:=by have:=r.dp;omega
theorem cG.units {k:Nat}{A:Around}(r:cG k A):A.units+64<cLine:=by have:=r.un;omega
def mU:TA:=fun _ H Q=>Q [] H
def hZ (ta:TE)(tr:TA):TA:=fun IA H Q=>ta IA H fun x H1=>tr IA H1 fun xs H2=>Q (x::xs) H2
section
variable {X:Cx}{e:Expr}{es:List Expr}{te:TE}{t:TA}{pos:Pos}
theorem dz:PA X [] mU:=fun _ _ _ _ H Q I h=>Calls.spliced_nil ⟨[],H,I,.nil,h⟩
theorem bR (ha:PE X e te)(hr:PA X es t)(hs:starEach (e::es) X.env=(false,eval e X.env)::starEach es X.env:=by rfl):PA X (e::es) (hZ te t):=by
 intro pos pins s IA H Q I h
 rw [hs]
 show wpAny _ _ (spliced ((false,eval e X.env)::backTo pos (starEach es X.env))) _ _ s
 refine Calls.spliced_cons (aX (ha pins s IA H _ I h) fun u s1 ⟨x,H1,I1,r1,q1⟩=>?_)
 exact aX (hr pos pins s1 IA H1 _ I1 q1) fun us s2 ⟨xs,H2,I2,r2,q2⟩=>⟨x::xs,H2,I2,.cons r1 r2,q2⟩
def Hy (t:TA):TE:=fun IA H Q=>t IA H fun xs H1=>xs.length<=sizeLine/\∀p,H1 p=none->Q (.ref p) (upd H1 p (.tup xs))
def Hz (t:TA):TE:=fun IA H Q=>t IA H fun xs H1=>xs.length<=sizeLine/\∀p,H1 p=none->Q (.ref p) (upd H1 p (.lst xs))
theorem bc {x1}(h:PA X es t):PE X (.Tuple es x1 pos) (Hy t):=by
 intro pins s IA H Q I hq
 refine wpAny_Tuple_spliced (aX (h pos pins s IA H _ I hq) fun us s1 ⟨xs,H1,I1,r,z,q⟩=>⟨by rw [<-r.length];exact z,?_⟩)
 have hf:H1 s1.heap.objs.size=none:=I1.aN.fresh (IF _)
 refine⟨.ref s1.heap.objs.size,upd H1 s1.heap.objs.size (.tup xs),I1.laid (t':=s1.toks) (fun b u e=>II _ e) (IF _) ?_,rfl,q _ hf⟩
 exact⟨z,us,r,⟨_,IK _ rfl,rfl,_,rfl,rfl⟩⟩
theorem cY (h:PA X es t):PE X (.List es pos) (Hz t):=by
 intro pins s IA H Q I hq
 refine wpAny_List_spliced (aX (h pos pins s IA H _ I hq) fun us s1 ⟨xs,H1,I1,r,z,q⟩=>⟨by rw [<-r.length];exact z,?_⟩)
 have hf:H1 s1.heap.objs.size=none:=I1.aN.fresh (IF _)
 refine⟨.ref s1.heap.objs.size,upd H1 s1.heap.objs.size (.lst xs),I1.laid (t':=s1.toks) (fun b u e=>II _ e) (IF _) ?_,rfl,q _ hf⟩
 exact⟨z,us,0,r,IK _ rfl⟩
end
abbrev Sp:=List V->Hp->VK->XK->Prop
abbrev mz:=List Env->Hp->Shared->XK->Value->Shared->Prop
structure pM (P:Program) (w:World) (K:IC) (mg:Str->Option Value) (base:Heap) (A:Around) (outer:List Env) (s:Shared) (H:Hp):Prop where
 frames:A.frames=some outer
 mod:Mod K mg base
 bs:∀b o,base.get? b=some o->s.heap.get? b=some o/\H b=none
 my:base.objs.size<=s.heap.objs.size
 gI:s.heap.FunFrames base outer
 oV:∀b∈cA outer,H b=none
 aN:di P w H s.heap
 bare:AllBare s.gens
def CE (outer:List Env)(P:Program)(w:World)(H:Hp)(s:Shared)(Q:VK)(u:Value)(s':Shared):Prop :=
 ∃v H',s'.os=s.os/\AllBare s'.gens/\Un (cA outer) [] H H' s.heap s'.heap/\di P w H' s'.heap/\RelV v u/\Q v H'
def CR (CX:mz)(outer:List Env)(P:Program)(w:World)(H:Hp)(s:Shared)(Q:VK)(E:XK)(r:Result)(s':Shared):Prop :=
 match r with
 | .ok (.ret u)=>CE outer P w H s Q u s'
 | .ok _=>False
 | .error e=>CX outer H s E e s'
structure aW (P:Program) (w:World) (K:IC) (mg:Str->Option Value) (base:Heap) (CX:mz) (k:Nat) (f:Addr) (fd:FuncData) (ps:List Str) (sp:Sp):Prop where
 len:∀vs H Q E,sp vs H Q E->vs.length=ps.length
 run:∀(A:Around) (outer:List Env) (s:Shared) (H:Hp) (args:Args) (us:List Value) (vs:List V) (Q:VK) (E:XK),cG k A->pM P w K mg base A outer s H->BindsTo s fd args (ps.zip us)->Vals vs us->sp vs H Q E ->
  codeAny (model P w) A (.call (.ref f) args) (CR CX outer P w H s Q E) s
theorem pM.make {P:Program}{w:World}{K:IC}{mg:Str->Option Value}{base:Heap}{A:Around}{outer:List Env}{s:Shared}{H:Hp}(e:pM P w K mg base A outer s H)(C:Addr)(us:List Value)(kw:List (Str×Value)) :
  pM P w K mg base (A.under (.builtin "type.__call__" ⟨.ref C::us,kw⟩)) outer s H:=⟨by first | exact e.frames | (simpa [Around.under,Code.envs,Code.isFrame,pushEnvs] using e.frames),e.mod,e.bs,e.my,e.gI,e.oV,e.aN,e.bare⟩
section
variable {X:Cx}{pins:List (Addr×Obj)}{IA : St}{H:Hp}{s s':Shared}
theorem Inv.E6 (I:Inv X pins IA H s):pM X.prog X.w X.K X.mg X.base X.A X.stack s H :=
 ⟨I.ok.frames,I.ok.mod,I.bs,IQ I.ok.my I.sz,I.stack,I.ky,I.aN,I.bare⟩
theorem Inv.after {Q:VK}{u:Value}(I:Inv X pins IA H s)(h:CE X.stack X.prog X.w H s Q u s'):EP X pins IA Q u s':=by
 obtain⟨v,H',os,bare,un,aN,r,q⟩:=h
 obtain⟨hh,g,d,t,os'⟩:=s'
 obtain rfl:os' = s.os:=os
 exact⟨v,H',I.call (h':=hh) (g':=g) (d':=d) (t':=t) (ch:=[]) un aN bare (fun b z=>absurd z (by simp)),r,q⟩
end
def uU (sp:Sp)(dvs:List V)(E:XK)(t:TA):TE:=fun IA H Q=>t IA H fun vs H1=>sp (vs++dvs) H1 Q E
inductive By (C:Addr) (m:Str) (sp:Sp) (dvs:List V) (E:XK) (t:TA) (IA : St) (Q:VK) (x:V) (H1:Hp):Prop
 | mk (a dx fs:_) (_:x=.ref a) (_:H1 a=some (.ins C dx fs)) (_:fs.lookup m=none) (_:t IA H1 fun vs H2=>sp (x::(vs++dvs)) H2 Q E)
def uV (C:Addr)(m:Str)(sp:Sp)(dvs:List V)(E:XK)(ta:TE)(t:TA):TE:=fun IA H Q=>ta IA H fun x H1=>By C m sp dvs E t IA Q x H1
def yC (C:Addr)(sp:Sp)(dvs:List V)(E:XK)(t:TA):TE:=fun IA H Q=>t IA H fun vs H1=>∀x dx,H1 x=none->H1 dx=none->dx≠x ->
 sp (.ref x::(vs++dvs)) (upd (upd H1 dx (.own x)) x (.ins C dx [])) (fun v H2=>v=.bg/\Q (.ref x) H2) E
def Binds (K:IC)(fd:FuncData)(ps:List Str)(ds:List Value):Prop :=
 ∀(s:Shared) (us:List Value),K.In s.heap->(us++ds).length=ps.length->BindsTo s fd ⟨us,[]⟩ (ps.zip (us++ds))
theorem Binds.all {K:IC}{fd:FuncData}{ps:List Str}(h:∀us:List Value,us.length=ps.length->bindArgs fd ⟨us,[]⟩=pure (ps.zip us)):Binds K fd ps []:=fun s us _ hl=>by
 rw [JP] at hl ⊢
 exact .of_eq (h us hl)
def Passes (CX:mz)(X:Cx)(E:XK):Prop:=∀(pins:List (Addr×Obj)) (IA : St) (H:Hp) (s:Shared) (e:Value) (s':Shared),Inv X pins IA H s->CX X.stack H s E e s'->X.xe e s'
section
variable {X:Cx}{CX:mz}{k:Nat}{f C:Addr}{fd:FuncData}{ps:List Str}{sp:Sp}{dvs:List V}{ds:List Value}{E:XK}{x m:Str}{p pos apos:Pos}{e o:Expr}{es:List Expr}{ta:TE}{t:TA}
theorem vh {pins:List (Addr×Obj)}{IA : St}{H:Hp}{s:Shared}{Q:VK}{us:List Value}{vs:List V}(F:aW X.prog X.w X.K X.mg X.base CX k f fd ps sp)(hr:cG k X.A)(hb:Binds X.K fd ps ds)(hd:Vals dvs ds)(hx:Passes CX X E)
  (I:Inv X pins IA H s) (r:Vals vs us) (h:sp (vs++dvs) H Q E):wpAny (model X.prog X.w) X.A (call (.ref f) us) (EP X pins IA Q) X.xe s:=by
 have r2:Vals (vs++dvs) (us++ds):=r.append hd
 have hl:(us++ds).length=ps.length:=by rw [<-r2.length];exact F.len _ _ _ _ h
 refine wpAny_call (LB (F.run X.A X.stack s H ⟨us,[]⟩ (us++ds) (vs++dvs) Q E hr I.E6 (hb s us I.fY hl) r2 h) fun r s' hq=>?_)
 cases r with
 | error e=>exact hx pins IA H s e s' I hq
 | ok fl =>
  cases fl with
  | ret u=>exact I.after hq
  | next=>exact False.elim hq
  | brk=>exact False.elim hq
  | cont=>exact False.elim hq
theorem xn (F:aW X.prog X.w X.K X.mg X.base CX k f fd ps sp)(hr:cG k X.A)(hg:Gl X x)(hm:X.mg x=some (.ref f))(hk:JC X.K (.ref f)=true)(hb:Binds X.K fd ps ds)(hd:Vals dvs ds)(hx:Passes CX X E)
  (ha:PA X (e::es) t) (hdb:(x == ("__debug__" : Str))=false:=by decide) (he:starEach (e::es) X.env=(false,eval e X.env)::starEach es X.env:=by rfl) (hpl:(backTo pos (starEach es X.env)).any (·.1)=false:=by rfl) :
  PE X (.Call (.Name x p) (e::es) [] pos) (uU sp dvs E t):=by
 intro pins s IA H Q I h
 refine LN (kA I hg hm ?_ hdb)
 refine Lf (h₀:=X.base) I.ok.mod.jX hk (aX (ha pos pins s IA H _ I h) fun us s1 ⟨vs,H1,I1,r,q⟩=>⟨I1.fY,?_⟩) he hpl
 exact vh F hr hb hd hx I1 r q
theorem DH {pl:Sem Bool}(he:PE X o ta)(c:jG X.K C)(hm:Meth X.K C m f)(F:aW X.prog X.w X.K X.mg X.base CX k f fd ps sp)(hr:cG k X.A)(hb:Binds X.K fd ps ds)(hd:Vals dvs ds)(hx:Passes CX X E)(ha:PA X (e::es) t)
  (hst:starEach (e::es) X.env=(false,eval e X.env)::starEach es X.env:=by rfl) (hpl:(backTo pos (starEach es X.env)).any (·.1)=false:=by rfl)
  (ht:eval (.Call (.Attribute o m apos) (e::es) [] pos) X.env=(do
   let ov <-eval o X.env
   standAt apos.atName
   let (f,first) <-holding [ov] (getMethod ov m pl)
   callWith pos f first (backTo pos (starEach (e::es) X.env)) (backToKw pos (keywordEach [] X.env))):=by rfl) :
  PE X (.Call (.Attribute o m apos) (e::es) [] pos) (uV C m sp dvs E ta t):=by
 intro pins s IA H Q I h
 refine PySem.W.methodCall_KW (pl:=pl) (aX (he pins s IA H _ I h) fun u s1 ⟨x,H1,I1,rx,a,dx,fs,ex,ea,l,q⟩=>?_) ht
 subst ex
 obtain rfl:u=Value.ref a:=rx
 refine qy I1 ea c hm l ?_
 refine Lf (first:=[.ref a]) (h₀:=X.base) I.ok.mod.jX hm.kp (aX (ha pos pins s1 IA H1 _ I1 q) fun us s2 ⟨vs,H2,I2,r,q2⟩=>⟨I2.fY,?_⟩) hst hpl
 exact vh (us:=.ref a::us) (vs:=.ref a::vs) F hr hb hd hx I2 (.cons rfl r) q2
theorem Bz {pl:Sem Bool}(he:PE X o ta)(c:jG X.K C)(hm:Meth X.K C m f)(F:aW X.prog X.w X.K X.mg X.base CX k f fd ps sp)(hr:cG k X.A)(hb:Binds X.K fd ps ds)(hd:Vals dvs ds)(hx:Passes CX X E)
  (ht:eval (.Call (.Attribute o m apos) [] [] pos) X.env=(do
   let ov <-eval o X.env
   standAt apos.atName
   let (f,first) <-holding [ov] (getMethod ov m pl)
   callWith pos f first (backTo pos (starEach [] X.env)) (backToKw pos (keywordEach [] X.env))):=by rfl) :
  PE X (.Call (.Attribute o m apos) [] [] pos) (uV C m sp dvs E ta mU):=by
 intro pins s IA H Q I h
 refine PySem.W.methodCall_KW (pl:=pl) (aX (he pins s IA H _ I h) fun u s1 ⟨x,H1,I1,rx,a,dx,fs,ex,ea,l,q⟩=>?_) ht
 subst ex
 obtain rfl:u=Value.ref a:=rx
 refine qy I1 ea c hm l ?_
 exact PySem.W.callWith_K0 (first:=[.ref a]) I1.fY hm.kp (vh (us:=[.ref a]) (vs:=[.ref a]) F hr hb hd hx I1 (.cons rfl .nil) q)
structure Mk (K:IC) (C f:Addr):Prop where
 makes:Kb K C=true
 init:Jf K (.ref C) "__init__" = some (some (.ref f))
 fn:Km K (.ref f)=true
 kp:JC K (.ref C)=true
theorem BA {pins:List (Addr×Obj)}{IA : St}{H:Hp}{s:Shared}{Q:VK}{us:List Value}{vs:List V}(M:Mk X.K C f)(F:aW X.prog X.w X.K X.mg X.base CX k f fd ps sp)(hr:cG (k+1) X.A)(hb:Binds X.K fd ps ds)(hd:Vals dvs ds)
  (hx:Passes CX X E) (I:Inv X pins IA H s) (r:Vals vs us)
  (h:∀x dx,H x=none->H dx=none->dx≠x->sp (.ref x::(vs++dvs)) (upd (upd H dx (.own x)) x (.ins C dx [])) (fun v H2=>v=.bg/\Q (.ref x) H2) E) :
  wpAny (model X.prog X.w) X.A (call (.ref C) us) (EP X pins IA Q) X.xe s:=by
 have hq:=h (s.heap.objs.size+1) s.heap.objs.size (I.aN.fresh (JI _)) (I.aN.fresh (IF _)) (IL (JD _))
 have I2:=Inv.made (C:=C) I
 have r2:Vals (V.ref (s.heap.objs.size+1)::(vs++dvs)) (Value.ref (s.heap.objs.size+1)::(us++ds)):=.cons rfl (r.append hd)
 have hl:(Value.ref (s.heap.objs.size+1)::us++ds).length=ps.length:=by
  have e:=r2.length
  rw [F.len _ _ _ _ hq] at e
  exact e.symm
 refine wpAny_call (Bx (f:=f) I.fY M.makes M.init (beq_iff_eq.mp M.fn) (LB (F.run _ X.stack _ _ ⟨Value.ref (s.heap.objs.size+1)::us,[]⟩ (Value.ref (s.heap.objs.size+1)::(us++ds)) _ _ E (hr.make C us [])
  (I2.E6.make C us []) (hb _ (Value.ref (s.heap.objs.size+1)::us) I2.fY hl) r2 hq) fun r s' hq'=>?_))
 cases r with
 | error e=>exact hx pins IA _ _ e s' I2 hq'
 | ok fl =>
  cases fl with
  | ret u =>
   obtain⟨v,H',I3,rv,ev,q3⟩:=I2.after hq'
   subst ev
   exact⟨rv,⟨V.ref (s.heap.objs.size+1),H',I3,rfl,q3⟩⟩
  | next=>exact False.elim hq'
  | brk=>exact False.elim hq'
  | cont=>exact False.elim hq'
theorem xo (M:Mk X.K C f)(F:aW X.prog X.w X.K X.mg X.base CX k f fd ps sp)(hr:cG (k+1) X.A)(hg:Gl X x)(hm:X.mg x=some (.ref C))(hb:Binds X.K fd ps ds)(hd:Vals dvs ds)(hx:Passes CX X E)
  (ha:PA X (e::es) t) (hdb:(x == ("__debug__" : Str))=false:=by decide) (he:starEach (e::es) X.env=(false,eval e X.env)::starEach es X.env:=by rfl) (hpl:(backTo pos (starEach es X.env)).any (·.1)=false:=by rfl) :
  PE X (.Call (.Name x p) (e::es) [] pos) (yC C sp dvs E t):=by
 intro pins s IA H Q I h
 refine LN (kA I hg hm ?_ hdb)
 refine Lf (h₀:=X.base) I.ok.mod.jX M.kp (aX (ha pos pins s IA H _ I h) fun us s1 ⟨vs,H1,I1,r,q⟩=>⟨I1.fY,?_⟩) he hpl
 exact BA M F hr hb hd hx I1 r q
end
section
variable {X:Cx}{CX:mz}{k:Nat}{f C:Addr}{fd:FuncData}{ps ks:List Str}{sp:Sp}{E:XK}{x m:Str}{p pos apos kpos:Pos}{e o:Expr}{es:List Expr}{kws:List Keyword}{te ta:TE}{t tk:TA}{nm:Option Str}
variable {g:List Value->List Value->List Value}{gV:List V->List V->List V}
end
structure aM (N P:List Str) (sc:Scope):Prop where
 kind:sc.kind=.function
 co:sc.isCoroutine=false
 gen:sc.isGenerator=false
 nd:N.Nodup
 pre:N.take P.length=P
 par:∀x∈P,sc.names.lookup x=some .local\/sc.names.lookup x=some .cell
 E7:∀y∈sc.names,y.2≠.free
theorem tO {kindOf:Str->Option NameKind}{x:Str}:∀{binds:List (Str×Value)} {m:Str->Option Value},(∀v,(x,v)∉binds)->bindL kindOf binds m x=m x
 | [],_,_=>rfl
 | (n,v)::r,m,h=>by
  unfold bindL
  rw [tO fun w hw=>h w (IM _ hw)]
  split
  ·have:x≠n:=by rintro rfl;exact h v IP
   simp [this]
  ·rfl
theorem tQ {kindOf:Str->Option NameKind}{x:Str}:∀{binds:List (Str×Value)} {m:Str->Option Value},(∀v,(x,v)∉binds)->bindC kindOf binds m x=m x
 | [],_,_=>rfl
 | (n,v)::r,m,h=>by
  unfold bindC
  rw [tQ fun w hw=>h w (IM _ hw)]
  split
  ·rfl
  ·have:x≠n:=by rintro rfl;exact h v IP
   simp [this]
theorem tR {kindOf:Str->Option NameKind}{x:Str}{v:Value}:∀{P:List Str} {vs:List Value} {i:Nat} {m:Str->Option Value},P.Nodup->P[i]?=some x->vs[i]?=some v->kindOf x=some .local ->
  bindL kindOf (P.zip vs) m x=some v
 | [],_,_,_,_,h,_,_=>by simp at h
 | _::_,[],_,_,_,_,h,_=>by simp at h
 | p::P,w::vs,0,m,nd,h1,h2,hk=>by
  simp at h1 h2;subst h1;subst h2
  show bindL kindOf ((p,w)::P.zip vs) m p=_
  unfold bindL
  rw [tO fun v hv=>(JQ.mp nd).1 (KH hv).1,if_pos hk]
  simp
 | p::P,w::vs,i+1,m,nd,h1,h2,hk=>by
  show bindL kindOf ((p,w)::P.zip vs) m x=_
  unfold bindL
  exact tR (i:=i) (JQ.mp nd).2 (by simpa using h1) (by simpa using h2) hk
theorem tS {kindOf:Str->Option NameKind}{x:Str}{v:Value}:∀{P:List Str} {vs:List Value} {i:Nat} {m:Str->Option Value},P.Nodup->P[i]?=some x->vs[i]?=some v->kindOf x≠some .local ->
  bindC kindOf (P.zip vs) m x=some v
 | [],_,_,_,_,h,_,_=>by simp at h
 | _::_,[],_,_,_,_,h,_=>by simp at h
 | p::P,w::vs,0,m,nd,h1,h2,hk=>by
  simp at h1 h2;subst h1;subst h2
  show bindC kindOf ((p,w)::P.zip vs) m p=_
  unfold bindC
  rw [tQ fun v hv=>(JQ.mp nd).1 (KH hv).1,if_neg hk]
  simp
 | p::P,w::vs,i+1,m,nd,h1,h2,hk=>by
  show bindC kindOf ((p,w)::P.zip vs) m x=_
  unfold bindC
  exact tS (i:=i) (JQ.mp nd).2 (by simpa using h1) (by simpa using h2) hk
def start (N:List Str)(vs:List V):St:=vs.map some++JR (N.length-vs.length) none
def e7 (CX:mz)(P:Program)(w:World)(K:IC)(mg:Str->Option Value)(base:Heap)(N:List Str)(qual:Str)(scope:Scope)(f:Addr)(cd:Value)(A:Around)(outer:List Env)(s:Shared)(H:Hp)(E:XK):Cx where
 prog:=P
 w:=w
 K:=K
 mg:=mg
 base:=base
 A:=A.deeper (envOfC qual scope s.heap.objs.size f cd)
 N:=N
 dE:=s
 u9:=H
 env:=envOfC qual scope s.heap.objs.size f cd
 outer:=outer
 stack:=envOfC qual scope s.heap.objs.size f cd::outer
 ex:=[]
 calm:=true
 fn:=fun _=>true
 pn:=[]
 xe:=fun e s'=>wpAny (model P w) (A.deeper (envOfC qual scope s.heap.objs.size f cd)) (leaving (envOfC qual scope s.heap.objs.size f cd) e) (fun _ s''=>CX outer H s E e s'') (fun e' s''=>CX outer H s E e' s'') s'
theorem vi {sc:Scope}{n:Nat}{x:Str}(h:sc.names.lookup x=some .cell):∃c,(cellsFrom n sc.names []).lookup x=some c:=by
 have q:=PySem.W.cellsFrom_some sc.names n [] (.inl h)
 exact Option.isSome_iff_exists.mp q
theorem zM {CX:mz}{P:Program}{w:World}{K:IC}{mg:Str->Option Value}{base:Heap}{N ps:List Str}{qual:Str}{scope:Scope}{f:Addr}{cd:Value}{A:Around}{outer:List Env}{s s1:Shared}{H:Hp}{E:XK}{us:List Value}{vs:List V}
  (S:aM N ps scope) (hd:A.handled=none) (e0:pM P w K mg base A outer s H) (hl:vs.length=ps.length) (r:Vals vs us)
  (x:InCallC s s.heap.objs.size (bindL (envOfC qual scope s.heap.objs.size f cd).kindOf (ps.zip us) fun _=>none) (cellsFrom (s.heap.objs.size+1) scope.names []) (bindC (envOfC qual scope s.heap.objs.size f cd).kindOf (ps.zip us) fun _=>none) s1) :
  Inv (e7 CX P w K mg base N qual scope f cd A outer s H E) [] (start N vs) H s1:=by
 have hpl:ps.length<=N.length:=by have:=congrArg JX S.pre;rw [Jm] at this;omega
 obtain⟨h1,tk,rfl,hk⟩:=x.done
 have noA:∀b:Addr,b∉(e7 CX P w K mg base N qual scope f cd A outer s H E).ex:=fun b z=>absurd (show b∈([]:List Addr) from z) (by simp)
 refine⟨⟨e0.mod,S.kind,rfl,rfl,IF _,fun y z c h1 h2=>?_,fun y hy=>?_,fun y c _ h=>?_,fun _=>hd,Around.frames_deeper e0.frames,.inr ⟨rfl,rfl⟩,fun b z=>absurd z (noA b),e0.bs,e0.my,fun b _ _=>noA b,fun b z=>absurd z (noA b),e0.gI,e0.oV⟩,
  rfl,e0.bare,Un.kept hk,⟨_,x.toInCall.ns,fun i y v h1 h2 h3=>?_⟩,fun y c h=>⟨_,x.cell y c h⟩,e0.aN.fresh (IF _),fun y c h=>?_,fun p hp=>absurd (show p∈([]:List (Addr×Obj)) from hp) (by simp),e0.aN.kept hk,?_⟩
 ·exact name_of_addr x.apart (PySem.mem_of_lookup h1) (PySem.mem_of_lookup h2)
 ·have hy:scope.names.lookup y=some .cell\/scope.names.lookup y=some .free:=hy
  rcases hy with hy | hy
  ·exact vi hy
  ·exact absurd rfl (S.E7 _ (PySem.mem_of_lookup hy))
 ·exact Jo (x.above y c (PySem.mem_of_lookup h))
 ·have hi:i<vs.length:=by
   unfold start at h2
   by_cases hi:i<vs.length
   ·exact hi
   ·rw [KJ (by simpa using hi)] at h2
    rw [Lg] at h2
    split at h2 <;> cases h2
  have ha:vs[i]?=some v:=by
   unfold start at h2
   rw [JY (by simpa using hi),IZ] at h2
   cases e:vs[i]? with
   | none=>rw [e] at h2;cases h2
   | some a=>rw [e] at h2;cases h2;rfl
  obtain⟨u,hu,rv⟩:=r.get ha
  have hp:ps[i]?=some y:=by
   rw [<-S.pre,List.getElem?_take_of_lt (by omega)];exact h1
  have ndP:ps.Nodup:=by rw [<-S.pre];exact S.nd.sublist (List.take_sublist _ _)
  refine⟨u,rv,?_⟩
  rcases S.par y (Ja hp) with k | k
  ·exact .inl ⟨k,tR ndP hp hu k⟩
  ·obtain⟨c,e⟩:=vi (n:=s.heap.objs.size+1) k
   refine .inr ⟨.inl k,c,e,?_⟩
   have q:=x.cell y c e
   rw [tS ndP hp hu (by show scope.names.lookup y≠_;rw [k];decide)] at q
   exact q
 ·exact e0.aN.fresh (Jo (x.above y c (PySem.mem_of_lookup h)))
 ·unfold start
  show _=N.length
  rw [IJ,ID,Kn]
  omega
theorem yD {CX:mz}{P:Program}{w:World}{K:IC}{mg:Str->Option Value}{base:Heap}{k:Nat}{f:Addr}{name qual:Str}{params:Arguments}{body:List Stmt}{scope:Scope}{dV kV doc pm cdv ct oc:Value}{an od:Option Addr}
  {osl:Array (Option Value)} {N ps:List Str} {sp:Sp} (lk:K.lookup f=some ⟨oc,od,.func (Jv name qual params body scope dV kV doc pm an cdv ct),osl⟩) (hcd:JZ K cdv qual=true) (S:aM N ps scope)
  (len:∀vs H Q E,sp vs H Q E->vs.length=ps.length)
  (hbody:∀(A:Around) (outer:List Env) (s:Shared) (H:Hp) (vs:List V) (Q:VK) (E:XK),cG k (A.deeper (envOfC qual scope s.heap.objs.size f cdv))->sp vs H Q E ->
   ∃t,fZ (e7 CX P w K mg base N qual scope f cdv A outer s H E) body t/\t { nx:=fun _ H'=>Q .bg H',rt:=Q } (start N vs) H) :
  aW P w K mg base CX (k+1) f (Jv name qual params body scope dV kV doc pm an cdv ct) ps sp:=by
 refine⟨len,fun A outer s H args us vs Q E hr e0 hb r hsp=>?_⟩
 have hl:=len _ _ _ _ hsp
 have KX:K.In s.heap:=e0.mod.jX.keeps fun b o e=>(e0.bs b o e).1
 have lim:s.heap.NoLimit:=e0.mod.nolimit.keeps fun b o e=>(e0.bs b o e).1
 have hkind:∀y∈ps.zip us,scope.names.lookup y.1=some .local\/(scope.names.lookup y.1=some .cell/\((cellsFrom (s.heap.objs.size+1) scope.names []).lookup y.1).isSome=true):=fun ⟨n,v⟩ hy=>by
  rcases S.par n (KH hy).1 with q | q
  ·exact .inl q
  ·exact .inr ⟨q,PySem.W.cellsFrom_some _ _ _ (.inl q)⟩
 refine codeAny_call_function hr.depth (KX _ _ lk) rfl S.co S.gen rfl (PySem.W.codeRec_of KX hcd) (hb _ _ _ _ ?_)
 refine wpAny_newFunctionEnv_cells S.kind hkind fun env he s1 x=>?_
 subst he
 refine⟨lim.keeps x.toInCall.keep,codeAny_func ?_⟩
 obtain⟨t,ht,hq⟩:=hbody A outer s H vs Q E (hr.deeper _) hsp
 have I:Inv (e7 CX P w K mg base N qual scope f cdv A outer s H E) [] (start N vs) H s1:=zM S hr.hd e0 hl r x
 refine Lr (ht [] s1 (start N vs) H _ I hq) (fun fl s' hs=>?_) fun e s' hs=>hs
 have fin:∀{σ':St} {H':Hp} {v:V} {u:Value},Inv (e7 CX P w K mg base N qual scope f cdv A outer s H E) [] σ' H' s'->RelV v u->Q v H'->CE outer P w H s Q u s' :=
  fun {σ' H' v u} J rv q=>⟨v,H',J.os,J.bare,J.base,J.aN,rv,q⟩
 cases fl with
 | ret u =>
  obtain⟨v,σ',H',J,rv,q⟩:=hs
  exact fin J rv q
 | next =>
  obtain⟨σ',H',J,q⟩:=hs
  exact fin (v:=V.bg) (u:=Value.none) J rfl q
 | brk =>
  obtain⟨_,_,_,q⟩:=hs
  exact False.elim q
 | cont =>
  obtain⟨_,_,_,q⟩:=hs
  exact False.elim q
section
variable {X:Cx}{x:Str}{p pos:Pos}{e:Expr}{es:List Expr}{t:TA}{id T:String}{r:List V->Hp->VK->Prop}
def E8 (r:List V->Hp->VK->Prop)(t:TA):TE:=fun IA H Q=>t IA H fun vs H1=>r vs H1 Q
theorem aU (hc:dU X (.builtin id) r) (hg:Gl X x) (hm:X.mg x=none) (hv:bootBuiltins x=some (.builtin id)) (ha:PA X (e::es) t) (hn:x ≠ "__name__" := by decide) (hdb:(x == ("__debug__" : Str))=false:=by decide)
  (he:starEach (e::es) X.env=(false,eval e X.env)::starEach es X.env:=by rfl) (hpl:(backTo pos (starEach es X.env)).any (·.1)=false:=by rfl):PE X (.Call (.Name x p) (e::es) [] pos) (E8 r t):=by
 intro pins s IA H Q I h
 refine LN (iT I hg hm hv ?_ hn hdb)
 exact PyProof.Rows.callWith_builtin1 (aX (ha pos pins s IA H _ I h) fun us s1 ⟨vs,H1,I1,r1,q1⟩=>hc pins s1 IA H1 vs us Q I1 r1 q1) he hpl
theorem bo (hc:dU X (.type T) r) (hg:Gl X x) (hm:X.mg x=none) (hv:bootBuiltins x=some (.type T)) (ha:PA X (e::es) t) (hn:x ≠ "__name__" := by decide) (hdb:(x == ("__debug__" : Str))=false:=by decide)
  (he:starEach (e::es) X.env=(false,eval e X.env)::starEach es X.env:=by rfl) (hpl:(backTo pos (starEach es X.env)).any (·.1)=false:=by rfl):PE X (.Call (.Name x p) (e::es) [] pos) (E8 r t):=by
 intro pins s IA H Q I h
 refine LN (iT I hg hm hv ?_ hn hdb)
 exact PyProof.Rows.callWith_type1 (aX (ha pos pins s IA H _ I h) fun us s1 ⟨vs,H1,I1,r1,q1⟩=>hc pins s1 IA H1 vs us Q I1 r1 q1) he hpl
theorem yE (hc:dU X (.type T) r) (hg:Gl X x) (hm:X.mg x=none) (hv:bootBuiltins x=some (.type T)) (hn:x ≠ "__name__" := by decide) (hdb:(x == ("__debug__" : Str))=false:=by decide) :
  PE X (.Call (.Name x p) [] [] pos) (E8 r mU):=by
 intro pins s IA H Q I h
 refine LN (iT I hg hm hv ?_ hn hdb)
 exact PyProof.Rows.callWith_type0 (hc pins s IA H [] [] Q I .nil h)
end
end L2
namespace HT
open PySem PyProof.Rows
section
open PySem.SeqAt
open PySem.AutoSeq1 (wpAny_loadPart')
open PySem.MeetsSeq PySem.MeetsSeq2 PySem.MeetsSeq3
end
section
variable {prog:Program}{w:World}{A:Around}{E:Value->Shared->Prop}{s:Shared}
theorem DI {t b:Addr}{vs ws:List Value}{Q:Value->Shared->Prop}(ht:IsTup s.heap t vs.toArray)(hb:IsTup s.heap b ws.toArray)(hv:vs≠[])
  (h1:ws=[]->Q (.ref t) s) (h2:ws≠[]->Q (.ref s.heap.objs.size) { s with heap:=s.heap.push { cls:=.type "tuple",data:=.seq (vs++ws).toArray } })
  (hsz:vs.length+ws.length<=sizeLine):wpAny (model prog w) A (binaryOp .Add (.ref t) (.ref b)) Q E s:=by
 obtain⟨⟨cls,dd,data,sl⟩,ho,hc,n,hd⟩:=id ht
 obtain⟨⟨cls2,dd2,data2,sl2⟩,ho2,hc2,n2,hd2⟩:=id hb
 simp only at hc hd hc2 hd2
 subst hc hd hc2 hd2
 have e:vs.toArray++ws.toArray=(vs++ws).toArray:=by simp
 by_cases hw:ws=[]
 ·exact concat_meets ⟨_,ho,rfl⟩ ⟨_,ho2,rfl⟩ noFill_tuple_add seq_tuple_add PySem.F.slot_tuple_add PySem.F.entry_tuple_add (PySem.F.args_tuple_add_2 _ _)
   (tuple_addW1 t b vs.toArray ws.toArray n n2 dd dd2 sl sl2 (by simpa using hv) (by simp [hw])) ⟨ho,ho2,h1 hw⟩
 ·refine concat_meets ⟨_,ho,rfl⟩ ⟨_,ho2,rfl⟩ noFill_tuple_add seq_tuple_add PySem.F.slot_tuple_add PySem.F.entry_tuple_add (PySem.F.args_tuple_add_2 _ _)
   (tuple_addW2 t b vs.toArray ws.toArray n n2 dd dd2 sl sl2 (by simpa using hv) (by simpa using hw) (by rw [IX,IX];exact hsz)) ⟨ho,ho2,?_⟩
  rw [e]
  exact h2 hw
def b6 (n d:Nat):Option Int->Nat
 | none=>d
 | some v=>if v<0 then (v+(n:Int)).toNat else min v.toNat n
theorem pN (n d:Nat):b6 n d none=d:=rfl
theorem kG (n d k:Nat):b6 n d (some (k:Int))=min k n:=by
 show (if (k:Int)<0 then ((k:Int)+(n:Int)).toNat else min (k:Int).toNat n)=min k n
 rw [if_neg (by omega),JS]
theorem E9 (n d:Nat)(hd:d<=n)(o:Option Int):b6 n d o<=n:=by
 cases o with
 | none=>exact hd
 | some v =>
  show (if v<0 then (v+(n:Int)).toNat else min v.toNat n)<=n
  by_cases hv:v<0
  ·rw [if_pos hv];omega
  ·rw [if_neg hv];exact Nat.min_le_right _ _
theorem xp (v:Int)(n d:Nat):(if v<0 then max (v+(n:Int)) 0 else min v (n:Int))=((b6 n d (some v):Nat):Int):=by
 show (if v<0 then max (v+(n:Int)) 0 else min v (n:Int))=(((if v<0 then (v+(n:Int)).toNat else min v.toNat n):Nat):Int)
 by_cases hv:v<0
 ·simp only [if_pos hv];omega
 ·simp only [if_neg hv];omega
theorem yF (lo hi:Option Int)(n:Nat):Builtin.Slice.sliceAdjust lo hi 1 (n:Int)=(((b6 n 0 lo:Nat):Int),((b6 n n hi:Nat):Int)):=by
 have h1:¬((1:Int)<0):=by omega
 unfold Builtin.Slice.sliceAdjust
 simp only [h1,if_false]
 refine Prod.ext ?_ ?_
 ·cases lo with
  | none=>rfl
  | some v=>exact xp v n 0
 ·cases hi with
  | none=>rfl
  | some v=>exact xp v n n
theorem yG (i j:Nat):Builtin.Slice.slicePlaces (i:Int) (j:Int) 1=j-i:=by
 unfold Builtin.Slice.slicePlaces
 have h1:(1:Int) > 0:=by omega
 simp only [h1,if_true,Int.ediv_one]
 split <;> omega
theorem qC {v:Value}{o:Option Int}{Q:Option Int->Shared->Prop}(p:IsPart v o)(h:Q o s):wpAny (model prog w) A (Builtin.Slice.slicePartIndex v) Q E s:=by
 cases p with
 | none=>exact slicePart_none h
 | int i t=>exact slicePart_int h
theorem jH {sl:Addr}{vl vu:Value}{lo hi:Option Int}{n:Nat}{Q:Int×Int×Nat->Shared->Prop}(hs:s.heap.IsSliceOf sl vl vu .none)(pl:IsPart vl lo)(pu:IsPart vu hi)
  (h:Q (((b6 n 0 lo:Nat):Int),1,b6 n n hi-b6 n 0 lo) s):wpAny (model prog w) A (Builtin.Slice.sliceApplied (.ref sl) (pure (n:Int))) Q E s:=by
 obtain⟨os,hos,hcs,hds⟩:=id hs
 unfold Builtin.Slice.sliceApplied Builtin.Slice.sliceFields
 refine Lo (Lo (Lw hos hds (x:=vl) rfl (Lo (Lw hos hds (x:=vu) rfl (Lo (Lw hos hds (x:=.none) rfl (Lq ?_)))))))
 refine Lo (slicePart_none ?_)
 show wpAny _ _ (if ((1:Int) == 0)=true then _ else _) _ _ s
 rw [if_neg (by decide)]
 refine Lo (qC pl (Lo (qC pu (Lo (Lq ?_)))))
 show wpAny _ _ (match Builtin.Slice.sliceAdjust lo hi 1 (n:Int) with | (lo,hi)=>pure (lo,(1:Int),Builtin.Slice.slicePlaces lo hi 1)) _ _ s
 rw [yF lo hi n]
 show wpAny _ _ (pure (((b6 n 0 lo:Nat):Int),(1:Int),Builtin.Slice.slicePlaces ((b6 n 0 lo:Nat):Int) ((b6 n n hi:Nat):Int) 1)) _ _ s
 rw [yG]
 exact Lq h
theorem BB (xs:Array Value)(i k:Nat):((Js k).filterMap fun (m:Nat)=>xs[((i:Int)+(m:Int)*1).toNat]?).toArray=((xs.toList.drop i).take k).toArray:=by
 have e:(fun (m:Nat)=>xs[((i:Int)+(m:Int)*1).toNat]?)=fun m=>xs[i+m]?:=by
  funext m
  have:((i:Int)+(m:Int)*1).toNat=i+m:=by omega
  rw [this]
 rw [e]
 have:=pick_run xs i k
 rw [Lh] at this
 have e2:((fun x=>xs[x]?) ∘ fun x=>i+x)=fun m=>xs[i+m]?:=rfl
 rw [e2] at this
 rw [this]
theorem oO {t sl:Addr}{items:Array Value}{vl vu:Value}{lo hi:Option Int}{Q:Value->Shared->Prop}(ht:IsTup s.heap t items)(hs:s.heap.IsSliceOf sl vl vu .none)(pl:IsPart vl lo)(pu:IsPart vu hi)
  (hw:¬(b6 items.size 0 lo=0/\b6 items.size items.size hi=items.size))
  (h:Q (.ref s.heap.objs.size) { s with heap:=s.heap.push { cls:=.type "tuple",data:=.seq ((items.toList.drop (b6 items.size 0 lo)).take (b6 items.size items.size hi-b6 items.size 0 lo)).toArray } })
  (hsz:items.size<=sizeLine):wpAny (model prog w) A (getItem (.ref t) (.ref sl)) Q E s:=by
 have htake:sizeOk (.seq ((items.toList.drop (b6 items.size 0 lo)).take (b6 items.size items.size hi-b6 items.size 0 lo)).toArray):=by
  show ((items.toList.drop (b6 items.size 0 lo)).take (b6 items.size items.size hi-b6 items.size 0 lo)).toArray.size<=sizeLine
  rw [IX,Jm,Kc,JA]
  omega
 have hj:b6 items.size items.size hi<=items.size:=E9 _ _ (IF _) hi
 obtain⟨os,hos,hcs,hds⟩:=id hs
 have hTs:s.TypeIs (.ref sl) "slice" := ⟨os,hos,hcs⟩
 unfold getItem
 try with_reducible refine Ls ?_
 first | refine Lo (Lq ?_) | skip
 refine Lo (L3 ht.typeIs (by decide) ?_)
 refine Lo (wpAny_callSpecial?_slot (name:=Str.ofString "__getitem__") ht.typeIs PyProof.Rows.slot_tuple_getitem
  (Lu PyProof.Rows.slot_tuple_getitem ht.typeIs entry_tuple_getitem ?_ (args_tuple_getitem _ _)))
 show wpAny _ _ (Builtin.Tuple.tupleItemsOf (.ref t) >>= _) _ _ s
 refine Lo (tupleItemsOf_ ht ?_)
 refine Lo (LK hTs ?_)
 rw [if_pos (by decide)]
 refine Lo (jH hs pl pu ?_)
 have hno:¬((((b6 items.size 0 lo:Nat):Int) == 0&&(1:Int) == 1&&(b6 items.size items.size hi-b6 items.size 0 lo) == items.size)=true):=by
  intro q
  rw [Jp,Jp] at q
  have q1:((b6 items.size 0 lo:Nat):Int)=0:=eq_of_beq q.1.1
  have q2:b6 items.size items.size hi-b6 items.size 0 lo=items.size:=eq_of_beq q.2
  exact hw ⟨by omega,by omega⟩
 show wpAny _ _ (if (((b6 items.size 0 lo:Nat):Int) == 0&&(1:Int) == 1&&(b6 items.size items.size hi-b6 items.size 0 lo) == items.size)=true then _ else _) _ _ s
 rw [if_neg hno,BB]
 first
  | exact Lo (m:=Builtin.Tuple.tupleExact _) (Lv (Lq ⟨_,rfl,Lq h⟩) htake)
  | exact Lo (m:=Builtin.Tuple.tupleExact _) (Lv (Lo (Lq (Lq ⟨_,rfl,Lq h⟩))) htake)
  | exact Lo (Lo (m:=Builtin.Tuple.tupleExact _) (Lv (Lq (Lq ⟨_,rfl,Lq h⟩)) htake))
  | exact Lo (Lo (m:=Builtin.Tuple.tupleExact _) (Lv (Lq ⟨_,rfl,Lq h⟩) htake))
end
end HT
namespace L2
open PySem PySem.Spec PyProof.Rows
abbrev TO:=St->Hp->(Option Int->Hp->Prop)->Prop
def PO (X:Cx)(e:Option Expr)(t:TO):Prop :=
 ∀(pins:List (Addr×Obj)) (s:Shared) (IA : St) (H:Hp) (Q:Option Int->Hp->Prop),Inv X pins IA H s->t IA H Q ->
  wpAny (model X.prog X.w) X.A (evalPart e X.env) (fun u s'=>∃o H',Inv X pins IA H' s'/\IsPart u o/\Q o H') X.xe s
def DJ:TO:=fun _ H Q=>Q none H
inductive BC (Q:(Option Int->Hp->Prop)) (x:V) (H1:Hp):Prop
 | mk (i:_) (_:x=.int i) (_:Q (some i) H1)
def Gr (t:TE):TO:=fun IA H Q=>t IA H fun x H1=>BC Q x H1
section
variable {X:Cx}{e:Expr}{te:TE}{lo hi:Option Expr}{tl th:TO}{pos p2:Pos}
theorem jv:PO X none DJ:=by
 intro pins s IA H Q I h
 rw [evalPart_none]
 exact Lq ⟨none,H,I,.none,h⟩
theorem jw (h:PE X e te):PO X (some e) (Gr te):=by
 intro pins s IA H Q I hw
 rw [evalPart_some]
 refine aX (h pins s IA H _ I hw) fun u s1 ⟨x,H1,I1,r1,q1⟩=>?_
 obtain⟨i,rfl,q⟩:=q1
 obtain⟨t,rfl⟩:=r1
 exact⟨some i,H1,I1,.int i t,q⟩
def C2 (X:Cx)(r:V->Option Int->Option Int->Hp->VK->Prop):Prop :=
 ∀(pins:List (Addr×Obj)) (s:Shared) (IA : St) (H:Hp) (x:V) (v vl vu:Value) (lo hi:Option Int) (sl:Addr) (Q:VK),Inv X pins IA H s->RelV x v->s.heap.IsSliceOf sl vl vu .none->IsPart vl lo->IsPart vu hi->r x lo hi H Q ->
  ∃T id,typeLookup (.type T) "__getitem__" = pure (some (.builtin id))/\s.TypeIs v T/\wpAny (model X.prog X.w) X.A (getItem v (.ref sl)) (EP X pins IA Q) X.xe s
def Ia (r:V->Option Int->Option Int->Hp->VK->Prop)(te:TE)(tl th:TO):TE:=fun IA H Q=>te IA H fun x H1=>tl IA H1 fun l H2=>th IA H2 fun u H3=>r x l u H3 Q
theorem iB {r:V->Option Int->Option Int->Hp->VK->Prop}(hr:C2 X r)(he:PE X e te)(hl:PO X lo tl)(hu:PO X hi th):PE X (.Subscript e (.Slice lo hi none p2) pos) (Ia r te tl th):=by
 intro pins s IA H Q I h
 refine Subscript_ (aX (he pins s IA H _ I h) fun v s1 ⟨x,H1,I1,r1,q1⟩=>?_)
 refine wpAny_Slice (aX (hl pins s1 IA H1 _ I1 q1) fun vl s2 ⟨l,H2,I2,pl,q2⟩=>aX (hu pins s2 IA H2 _ I2 q2) fun vu s3 ⟨u,H3,I3,pu,q3⟩=>?_)
 rw [evalPart_none]
 refine Lq ?_
 have I4:Inv X pins IA H3 { s3 with heap:=s3.heap.push { cls:=.type "slice",data:=.fields #[vl,vu,.none] } }:=I3.kept (t':=s3.toks) fun b ob q=>II _ q
 obtain⟨T,id,hT,ht,hg⟩:=hr pins { s3 with heap:=s3.heap.push { cls:=.type "slice",data:=.fields #[vl,vu,.none] } } IA H3 x v vl vu l u s3.heap.objs.size Q I4 r1 (Heap.IsSliceOf.new ..) pl pu q3
 show wpAny (model X.prog X.w) X.A (subscriptTail e (.Slice lo hi none p2) v (.ref s3.heap.objs.size)) (EP X pins IA Q) X.xe { s3 with heap:=s3.heap.push { cls:=.type "slice",data:=.fields #[vl,vu,.none] } }
 exact tail_any (ops:=[.ref s3.heap.objs.size,v]) ht hT hg (by with_unfolding_all rfl)
def eW (xs:List V)(lo hi:Option Int):List V:=(xs.drop (HT.b6 xs.length 0 lo)).take (HT.b6 xs.length xs.length hi-HT.b6 xs.length 0 lo)
theorem wI (xs:List V)(lo hi:Option Int):(eW xs lo hi).length<=xs.length:=by
 unfold eW
 rw [Jm,Kc]
 omega
inductive HA (K:IC) (x:V) (lo:Option Int) (hi:Option Int) (H:Hp) (Q:VK):Prop
 | mk (a xs:_) (_:x=.ref a) (_:aw K H a xs) (_:¬(HT.b6 xs.length 0 lo=0/\HT.b6 xs.length xs.length hi=xs.length)) (_:∀p,H p=none->Q (.ref p) (upd H p (.tup (eW xs lo hi))))
theorem Fb:C2 X (HA X.K):=by
 intro pins s IA H x v vl vu lo hi sl Q I rx hs pl pu h
 obtain⟨a,xs,rfl,hx,hw,q⟩:=h
 cases rx
 obtain⟨its,r,ht,hz⟩:=I.tuple hx
 have hlen:its.toArray.size=xs.length:=by rw [IX];exact r.length.symm
 refine⟨"tuple",_,PyProof.Rows.slot_tuple_getitem.lookup,ht.typeIs,?_⟩
 refine HT.oO ht hs pl pu (by rw [hlen];exact hw) ?_ (by rw [hlen];exact hz)
 rw [hlen]
 refine⟨.ref s.heap.objs.size,_,I.laid (t':=s.toks) (o:=.tup (eW xs lo hi)) (fun b ob q=>II _ q) (IF _) ?_,rfl,q _ (I.aN.fresh (IF _))⟩
 exact⟨IQ (wI xs lo hi) hz,_,(r.drop (HT.b6 xs.length 0 lo)).take (HT.b6 xs.length xs.length hi-HT.b6 xs.length 0 lo),⟨_,IK _ rfl,rfl,_,rfl,rfl⟩⟩
theorem Vals.si {xs:List V}{us:List Value}(r:Vals xs us):us=[]↔xs=[]:=by
 cases r with
 | nil=>simp
 | cons _ _=>simp
end
def mC (n:Nat)(i:Int):Option Nat:=if 0<=i then (if i<n then some i.toNat else none) else if -(n:Int)<=i then some (i+n).toNat else none
def fG {α : Type}(xs:List α)(i:Int):Option α:=(mC xs.length i).bind fun j=>xs[j]?
theorem xq {n:Nat}{i:Int}{j:Nat}(h:mC n i=some j):seqIndex? i n=some j/\j<n/\-(n:Int)<=i/\i<n:=by
 unfold mC at h
 by_cases h0:0<=i
 ·rw [if_pos h0] at h
  by_cases h1:i<n
  ·rw [if_pos h1] at h
   have e:i.toNat=j:=IU.inj h
   exact⟨by rw [seqIndex_of h0 h1,e],by omega,by omega,h1⟩
  ·rw [if_neg h1] at h;cases h
 ·rw [if_neg h0] at h
  by_cases h1:-(n:Int)<=i
  ·rw [if_pos h1] at h
   have e:(i+n).toNat=j:=IU.inj h
   exact⟨by rw [seqIndex_neg (by omega) h1,e],by omega,h1,by omega⟩
  ·rw [if_neg h1] at h;cases h
theorem sj {α : Type}{xs:List α}{i:Int}{v:α}(h:fG xs i=some v):∃j,seqIndex? i xs.length=some j/\xs[j]?=some v/\j<xs.length/\-(xs.length:Int)<=i/\i<xs.length:=by
 unfold fG at h
 cases e:mC xs.length i with
 | none=>rw [e] at h;cases h
 | some j =>
  rw [e] at h
  obtain⟨h1,h2,h3,h4⟩:=xq e
  exact⟨j,h1,h,h2,h3,h4⟩
theorem cJ {α : Type}{xs:List α}{j:Nat}{v:α}(h:xs[j]?=some v):fG xs (j:Int)=some v:=by
 have hj:j<xs.length:=(IY.mp h).1
 have e:mC xs.length (j:Int)=some j:=by
  unfold mC
  rw [if_pos (by omega),if_pos (by omega)];simp
 unfold fG;rw [e];exact h
def xr (b:Expr):Prop:=∀o i,subscripted b false o i=operate [o,i] (getItem o i)
def xt (X:Cx)(r:R2):Prop :=
 ∀(value slice:Expr) (pins:List (Addr×Obj)) (s:Shared) (IA : St) (H:Hp) (x y:V) (v u:Value) (Q:VK),Inv X pins IA H s->RelV x v->RelV y u->r x y H Q ->
  subscripted slice false v u=operate [v,u] (getItem v u)->wpAny (model X.prog X.w) X.A (subscriptTail value slice v u) (EP X pins IA Q) X.xe s
def Fc (X:Cx)(id:String)(r:V->List V->Hp->VK->Prop):Prop :=
 ∀(pins:List (Addr×Obj)) (s:Shared) (IA : St) (H:Hp) (x:V) (xs:List V) (v:Value) (us:List Value) (Q:VK),Inv X pins IA H s->RelV x v->Vals xs us->r x xs H Q ->
  wpAny (model X.prog X.w) X.A (call (.builtin id) (v::us)) (EP X pins IA Q) X.xe s
section
variable {X:Cx}{a b:Expr}{ta tb:TE}{pos:Pos}
theorem Gs {r:R2}(hr:xt X r)(ha:PE X a ta)(hb:PE X b tb)(hs:xr b):PE X (.Subscript a b pos) (zE r ta tb):=by
 intro pins s IA H Q I h
 exact Subscript_ (Bo ha hb I h fun v u s2 x y H2 I2 rx ry q=>hr a b pins s2 IA H2 x y v u Q I2 rx ry q (hs _ _))
inductive HB (K:IC) (x:V) (y:V) (H:Hp) (Q:VK):Prop
 | mk (p xs i v:_) (_:x=.ref p) (_:y=.int i) (_:aO K H p xs) (_:fG xs i=some v) (_:Q v H)
inductive Fd (K:IC) (x:V) (y:V) (H:Hp) (Q:VK):Prop
 | mk (p xs i v:_) (_:x=.ref p) (_:y=.int i) (_:aw K H p xs) (_:fG xs i=some v) (_:Q v H)
inductive HC  (x:V) (y:V) (H:Hp) (Q:VK):Prop
 | mk (z i c:_) (_:x=.str z) (_:y=.int i) (_:z.length<=sizeLine) (_:fG z.cps.toList i=some c) (_:Q (.str ⟨#[c]⟩) H)
theorem bG:xt X (HB X.K):=by
 intro value slice pins s IA H x y v u Q I rx ry h hs
 obtain⟨p,xs,i,z,rfl,rfl,hq,he,q⟩:=h
 cases rx
 obtain⟨t,rfl⟩:=ry
 obtain⟨its,r,pl,hz⟩:=I.list hq
 obtain⟨j,h1,h2,h3,h4,h5⟩:=sj he
 obtain⟨w,ew,rw'⟩:=r.get h2
 have hl:=r.length
 have hn:=jF
 have fin:EP X pins IA Q w s:=⟨z,H,I,rw',q⟩
 by_cases h0:0<=i
 ·have hj:i.toNat=j:=by
   rw [seqIndex_of h0 h5] at h1
   exact IU.inj h1
  exact item_listR pl.isList h0 (by omega) (by rw [hj];simpa using ew) fin hs
 ·have hj:(i+(its.toArray.size:Int)).toNat=j:=by
   rw [seqIndex_neg (by omega) h4] at h1
   rw [IX,<-hl]
   exact IU.inj h1
  exact subscriptTail_builtinR (x:=w) pl.isList.typeIs slot_list_getitem.lookup
   (wpAny_getItem_list_neg (Q:=fun r s'=>r=w/\EP X pins IA Q r s') pl.isList (by omega) (by rw [IX] <;> omega) (by omega) (by rw [hj];simpa using ew) ⟨rfl,fin⟩) hs
theorem bD:xt X (Fd X.K):=by
 intro value slice pins s IA H x y v u Q I rx ry h hs
 obtain⟨p,xs,i,z,rfl,rfl,hq,he,q⟩:=h
 cases rx
 obtain⟨t,rfl⟩:=ry
 obtain⟨its,r,pl,hz⟩:=I.tuple hq
 obtain⟨j,h1,h2,h3,h4,h5⟩:=sj he
 obtain⟨w,ew,rw'⟩:=r.get h2
 have hl:=r.length
 have hn:=jF
 have fin:EP X pins IA Q w s:=⟨z,H,I,rw',q⟩
 exact subscriptTail_builtinR (x:=w) pl.typeIs slot_tuple_getitem.lookup
  (getItem_tuple (j:=j) (Q:=fun r s'=>r=w/\EP X pins IA Q r s') pl (by omega) (by omega) (by rw [IX,<-hl];exact h1) (by simpa using ew) ⟨rfl,fin⟩) hs
theorem zN:xt X HC:=by
  intro value slice pins s IA H x y v u Q I rx ry h hs
  obtain⟨z,i,c,rfl,rfl,hz,he,q⟩:=h
  obtain⟨t,rfl⟩:=rx
  obtain⟨t',rfl⟩:=ry
  obtain⟨j,h1,h2,h3,h4,h5⟩:=sj he
  have hl:z.cps.toList.length=z.length:=by simp [Str.length]
  rw [hl] at h1 h4 h5
  have hn:=jF
  exact tail_any (typeIs_str s z t) slot_str_getitem.lookup (getItem_str (c:=c) (by
    have e1:decide (i < -(2 ^ 63:Int))=false:=decide_eq_false (by omega)
    have e2:decide (i >= 2 ^ 63)=false:=decide_eq_false (by omega)
    rw [e1,e2,Bool.or_false]) (by rw [h1];simpa using h2) ⟨.str ⟨#[c]⟩,H,I.tok _,⟨_,rfl⟩,q⟩) hs
theorem yH (its:List Value)(n j:Nat)(u:Value):Obj.mapSeq (·.setIfInBounds j u) { cls:=.type "list",data:=.seq its.toArray n } = { cls:=.type "list",data:=.seq (its.set j u).toArray n }:=by
 simp [Obj.mapSeq]
theorem Inv.lst {pins:List (Addr×Obj)}{IA : St}{H:Hp}{s:Shared}{p:Addr}{xs:List V}(I:Inv X pins IA H s)(h:H p=some (.lst xs)) :
  ∃(its:List Value) (n:Nat),Vals xs its/\s.heap.get? p=some { cls:=.type "list",data:=.seq its.toArray n }/\xs.length<=sizeLine:=by
 obtain⟨z,its,n,r,e⟩:=I.aN p _ h
 exact⟨its,n,r,e,z⟩
theorem Inv.Fe {pins:List (Addr×Obj)}{IA : St}{H:Hp}{s:Shared}{p:Addr}{xs ys:List V}{its its':List Value}{n n':Nat}{f:Obj->Obj}(I:Inv X pins IA H s)(h:H p=some (.lst xs))
  (ho:s.heap.get? p=some { cls:=.type "list",data:=.seq its.toArray n }) (hf:f { cls:=.type "list",data:=.seq its.toArray n } = { cls:=.type "list",data:=.seq its'.toArray n' }) (r:Vals ys its') (hz:ys.length<=sizeLine) (t:Nat) :
  Inv X pins IA (upd H p (.lst ys)) { s with heap:=s.heap.update p f,toks:=t }:=by
 have e:(s.heap.update p f).get? p=some { cls:=.type "list",data:=.seq its'.toArray n' }:=by
  rw [JJ f ho (by rw [hf] <;> rfl),hf]
 refine I.write (x:=p) (e:=p) (by rw [h];trivial) (.inl rfl) (fun b u hb q=>(JF _ _ (Ne.symm hb)).trans q) ⟨_,e⟩ ?_
 exact⟨hz,its',n',r,e⟩
inductive Gu  (o:V) (i:V) (v:V) (H:Hp) (Q:(Hp->Prop)):Prop
 | mk (p xs k j:_) (_:o=.ref p) (_:i=.int k) (_:H p=some (.lst xs)) (_:mC xs.length k=some j) (_:Q (upd H p (.lst (xs.set j v))))
theorem set_list:Bh X Gu:=by
 intro pins s IA H o i v ov iv u Q I ro ri rv h
 obtain⟨p,xs,k,j,rfl,rfl,hp,hj,q⟩:=h
 cases ro
 obtain⟨t,rfl⟩:=ri
 obtain⟨its,n,r,ho,hz⟩:=I.lst hp
 obtain⟨h1,h2,h3,h4⟩:=xq hj
 have hl:=r.length
 have hn:=jF
 have I':Inv X pins IA (upd H p (.lst (xs.set j v))) { s with heap:=s.heap.update p (Obj.mapSeq (·.setIfInBounds j u)) } :=
  I.Fe hp ho (yH its n j u) (r.set rv j) (by rw [JG];exact hz) s.toks
 by_cases h0:0<=k
 ·have hk:k.toNat=j:=by
   rw [seqIndex_of h0 h4] at h1
   exact IU.inj h1
  exact PySem.W.ki_setAt ho h0 (by omega) (by rw [IX,<-hl];exact h4) (by rw [hk];exact⟨_,I',q⟩)
 ·have hk:(k+(its.toArray.size:Int)).toNat=j:=by
   rw [seqIndex_neg (by omega) h3] at h1
   rw [IX,<-hl]
   exact IU.inj h1
  exact PySem.W.ki_setBack ho (by omega) (by rw [IX,<-hl];exact h3) (by omega) (by rw [hk];exact⟨_,I',q⟩)
def h9:V->Bool
 | .bg=>true
 | .bl _=>true
 | .int _=>true
 | .str _=>true
 | _=>false
def oZ:V->V->Bool
 | .bg,.bg=>true
 | .bl a,.bl b=>a == b
 | .bl a,.int b=>(if a then 1 else 0) == b
 | .int a,.bl b=>a == (if b then 1 else 0)
 | .int a,.int b=>a == b
 | .str a,.str b=>a == b
 | _,_=>false
theorem Ff {A:Around}{s:Shared}{y x:V}{u v:Value}(ry:RelV y u)(rx:RelV x v)(fy:h9 y=true)(fx:h9 x=true):SeqAt.EqAt A s u v (oZ y x):=by
 cases y with
 | bg =>
  cases ry
  cases x with
  | bg=>cases rx;exact SeqAt.EqAt.same _
  | bl b=>cases rx;exact SeqAt.EqAt.none_bool b
  | int b=>obtain⟨t,rfl⟩:=rx;exact SeqAt.EqAt.none_int b t
  | str b=>obtain⟨t,rfl⟩:=rx;exact SeqAt.EqAt.none_str b t
  | _=>exact absurd (show false=true from fx) Je
 | bl a =>
  cases ry
  cases x with
  | bg=>cases rx;exact SeqAt.EqAt.bool_none a
  | bl b=>cases rx;exact SeqAt.EqAt.bool_bool a b
  | int b=>obtain⟨t,rfl⟩:=rx;exact SeqAt.EqAt.bool_int a b t
  | str b=>obtain⟨t,rfl⟩:=rx;exact SeqAt.EqAt.bool_str a b t
  | _=>exact absurd (show false=true from fx) Je
 | int a =>
  obtain⟨t',rfl⟩:=ry
  cases x with
  | bg=>cases rx;exact SeqAt.EqAt.int_none a t'
  | bl b=>cases rx;exact SeqAt.EqAt.int_bool a t' b
  | int b=>obtain⟨t,rfl⟩:=rx;exact SeqAt.EqAt.int_int a t' b t
  | str b=>obtain⟨t,rfl⟩:=rx;exact SeqAt.EqAt.int_str a t' b t
  | _=>exact absurd (show false=true from fx) Je
 | str a =>
  obtain⟨t',rfl⟩:=ry
  cases x with
  | bg=>cases rx;exact SeqAt.EqAt.str_none a t'
  | bl b=>cases rx;exact SeqAt.EqAt.str_bool a t' b
  | int b=>obtain⟨t,rfl⟩:=rx;exact SeqAt.EqAt.str_int a t' b t
  | str b=>obtain⟨t,rfl⟩:=rx;exact SeqAt.EqAt.str_str a t' b t
  | _=>exact absurd (show false=true from fx) Je
 | _=>exact absurd (show false=true from fy) Je
def jI (x:V)(u:Value):Bool:=match u with
 | .none=>oZ .bg x
 | .bool b=>oZ (.bl b) x
 | .int i _=>oZ (.int i) x
 | .str z _=>oZ (.str z) x
 | _=>false
theorem zO {x y:V}{u:Value}(r:RelV y u)(f:h9 y=true):jI x u=oZ y x:=by
 cases y with
 | bg=>cases r;rfl
 | bl b=>cases r;rfl
 | int i=>obtain⟨t,rfl⟩:=r;rfl
 | str z=>obtain⟨t,rfl⟩:=r;rfl
 | _=>exact absurd (show false=true from f) Je
theorem kH {x:V}:∀{xs:List V} {us:List Value},Vals xs us->xs.all h9=true->us.any (jI x)=xs.any fun y=>oZ y x
 | _,_,.nil,_=>rfl
 | y::xs,u::us,.cons r t,f=>by
  rw [KL,Jp] at f
  rw [Kd,Kd,zO r f.1,kH t f.2]
theorem jJ {A:Around}{s:Shared}{x:V}{v:Value}(rx:RelV x v)(fx:h9 x=true):∀{xs:List V} {us:List Value},Vals xs us->xs.all h9=true->∀u∈us,SeqAt.EqAt A s u v (jI x u)
 | _,_,.nil,_=>fun u hu=>by cases hu
 | y::xs,u::us,.cons r t,f=>fun u' hu=>by
  rw [KL,Jp] at f
  rcases IE.mp hu with rfl | hu
  ·rw [zO r f.1];exact Ff r rx f.1 fx
  ·exact jJ rx fx t f.2 u' hu
def iW (x:V)(xs:List V):Bool:=xs.any fun y=>oZ y x
inductive GV (K:IC) (neg:Bool) (x:V) (y:V) (H:Hp) (Q:VK):Prop
 | mk (p xs:_) (_:y=.ref p) (_:(aO K H p xs\/aw K H p xs)) (_:h9 x=true) (_:xs.all h9=true) (_:Q (.bl (if neg then !iW x xs else iW x xs)) H)
theorem jZ:dZ X (compareOp .In) (GV X.K false):=by
 intro pins s IA H x y v u Q I rx ry h
 obtain⟨p,xs,rfl,hq,fx,fs,q⟩:=h
 cases ry
 rcases hq with hq | hq
 ·obtain⟨its,r,pl,hz⟩:=I.list hq
  refine SeqAt.in_listAt (jI x) pl.isList (fun w hw=>jJ rx fx r fs w (by simpa using hw)) ⟨.bl _,H,I,rfl,?_⟩
  rw [show its.toArray.any (jI x)=its.any (jI x) by simp,kH r fs]
  exact q
 ·obtain⟨its,r,pl,hz⟩:=I.tuple hq
  refine SeqAt.in_tupleAt (jI x) pl (fun w hw=>jJ rx fx r fs w (by simpa using hw)) ⟨.bl _,H,I,rfl,?_⟩
  rw [show its.toArray.any (jI x)=its.any (jI x) by simp,kH r fs]
  exact q
theorem vj:dZ X (compareOp .NotIn) (GV X.K true):=by
 intro pins s IA H x y v u Q I rx ry h
 obtain⟨p,xs,rfl,hq,fx,fs,q⟩:=h
 cases ry
 rcases hq with hq | hq
 ·obtain⟨its,r,pl,hz⟩:=I.list hq
  refine SeqAt.notIn_listAt (jI x) pl.isList (fun w hw=>jJ rx fx r fs w (by simpa using hw)) ⟨.bl _,H,I,rfl,?_⟩
  rw [show its.toArray.any (jI x)=its.any (jI x) by simp,kH r fs]
  exact q
 ·obtain⟨its,r,pl,hz⟩:=I.tuple hq
  refine SeqAt.notIn_tupleAt (jI x) pl (fun w hw=>jJ rx fx r fs w (by simpa using hw)) ⟨.bl _,H,I,rfl,?_⟩
  rw [show its.toArray.any (jI x)=its.any (jI x) by simp,kH r fs]
  exact q
theorem aS:dU X (.builtin "len") (fun xs H Q=>∃p ys,xs=[.ref p]/\(aO X.K H p ys\/aw X.K H p ys)/\Q (.int ys.length) H):=by
 intro pins s IA H xs us Q I r h
 obtain⟨p,ys,rfl,hq,q⟩:=h
 obtain⟨u,rfl,rx⟩:=vals1 r
 cases rx
 have hn:=jF
 rcases hq with hq | hq
 ·obtain⟨its,r',pl,hz⟩:=I.list hq
  have hlen:=r'.length
  exact Calls.call_len_list pl.isList (by simp only [IX] <;> omega) ⟨.int ys.length,H,I.tok _,⟨s.toks+1,by rw [IX,hlen]⟩,q⟩
 ·obtain⟨its,r',pl,hz⟩:=I.tuple hq
  have hlen:=r'.length
  exact len_tuple pl (by simp only [IX] <;> omega) ⟨.int ys.length,H,I.tok _,⟨s.toks+1,by rw [IX,hlen]⟩,q⟩
theorem mV:dU X (.type "list") (fun xs H Q=>∃p ys,xs=[.ref p]/\(aO X.K H p ys\/aw X.K H p ys)/\∀l,H l=none->Q (.ref l) (upd H l (.lst ys))):=by
 intro pins s IA H xs us Q I r h
 obtain⟨p,ys,rfl,hq,q⟩:=h
 obtain⟨u,rfl,rx⟩:=vals1 r
 cases rx
 have fin:∀(its:List Value),Vals ys its->ys.length<=sizeLine->∀(h':Heap) (c':Nat),(∀b o',s.heap.get? b=some o'->h'.get? b=some o') ->
   h'.get? s.heap.objs.size=some { cls:=.type "list",dict:=none,data:=.seq its.toArray c',slots:=#[] }->EP X pins IA Q (.ref s.heap.objs.size) { s with heap:=h' }:=fun its r' hz h' c' kp e =>
  ⟨.ref s.heap.objs.size,_,I.laid (t':=s.toks) kp (IF _) (show bN X.prog X.w _ h' _ (.lst ys) from ⟨hz,its,c',r',e⟩),rfl,q _ (I.aN.fresh (IF _))⟩
 rcases hq with hq | hq
 ·obtain⟨its,r',pl,hz⟩:=I.list hq
  have hlen:=r'.length
  obtain⟨o,ho,hc,n,hd⟩:=pl.isList
  exact call_list_seq p (.inl rfl) ho hc hd (fun h' c' kp e=>fin its r' hz h' c' kp e) (by simp only [IX] <;> omega)
 ·obtain⟨its,r',pl,hz⟩:=I.tuple hq
  have hlen:=r'.length
  obtain⟨o,ho,hc,n,hd⟩:=pl
  exact call_list_seq p (.inr rfl) ho hc hd (fun h' c' kp e=>fin its r' hz h' c' kp e) (by simp only [IX] <;> omega)
theorem bh:dU X (.type "tuple") (fun xs H Q=>∃p ys,xs=[.ref p]/\((aO X.K H p ys/\∀l,H l=none->Q (.ref l) (upd H l (.tup ys)))\/(aw X.K H p ys/\Q (.ref p) H))):=by
 intro pins s IA H xs us Q I r h
 obtain⟨p,ys,rfl,h⟩:=h
 obtain⟨u,rfl,rx⟩:=vals1 r
 cases rx
 rcases h with ⟨hq,q⟩ | ⟨hq,q⟩
 ·obtain⟨its,r',pl,hz⟩:=I.list hq
  have hlen:=r'.length
  refine call_tuple_list pl.isList (fun h' kp=>?_) (by simp only [IX] <;> omega)
  have I1:Inv X pins IA H { s with heap:=h' }:=I.kept (t':=s.toks) kp
  have I2:Inv X pins IA (upd H h'.objs.size (.tup ys)) { s with heap:=h'.push { cls:=.type "tuple",data:=.seq its.toArray } } :=
   I1.laid (t':=s.toks) (fun b o e=>II _ e) (IF _) (show bN X.prog X.w _ _ _ (.tup ys) from ⟨hz,its,r',⟨_,IK _ rfl,rfl,_,rfl,rfl⟩⟩)
  exact⟨.ref h'.objs.size,_,I2,rfl,q _ (I1.aN.fresh (IF _))⟩
 ·obtain⟨its,r',pl,hz⟩:=I.tuple hq
  exact call_tuple_same pl ⟨.ref p,H,I,rfl,q⟩
def Fg (K:IC)(T:String)(x:V)(H:Hp):Prop:=match x with
 | .str _=>T = "str"
 | .int _=>T = "int"
 | .ref p=>(T = "list" /\ ∃xs,aO K H p xs)\/(T = "tuple" /\ ∃o,K.lookup p=some o/\o.cls=.type "tuple" /\ o.dict=none) \/
   (T = "dict" /\ ((∃kvs,H p=some (.dK kvs))\/∃kvs,H p=some (.dT kvs)))\/(T = "set" /\ ∃S n,H p=some (.set S n))
 | _=>False
theorem zP {pins:List (Addr×Obj)}{IA : St}{H:Hp}{s:Shared}{T:String}{x:V}{v:Value}(I:Inv X pins IA H s)(r:RelV x v)(ty:Fg X.K T x H) :
  s.TypeIs v T/\∀a,v=.ref a->∃ob,s.heap.get? a=some ob/\ob.dict=none:=by
 cases x with
 | str z =>
  obtain⟨t,rfl⟩:=r
  cases (show T = "str" from ty)
  exact⟨typeIs_str s z t,fun _ e=>nomatch e⟩
 | int i =>
  obtain⟨t,rfl⟩:=r
  cases (show T = "int" from ty)
  exact⟨typeIs_int s i t,fun _ e=>nomatch e⟩
 | ref p =>
  cases r
  rcases ty with ⟨rfl,xs,hq⟩ | ⟨rfl,o,hk,hc,hd⟩ | ⟨rfl,hk⟩ | ⟨rfl,S,n,hk⟩
  ·obtain⟨its,_,pl,_⟩:=I.list hq
   refine⟨pl.isList.typeIs,fun a e=>?_⟩
   cases e
   obtain⟨o,n,e,c,hd,_⟩:=pl
   exact⟨o,e,hd⟩
  ·refine⟨⟨o,I.fY p o hk,hc⟩,fun a e=>?_⟩
   cases e
   exact⟨o,I.fY _ o hk,hd⟩
  ·have z:∃o,s.heap.get? p=some o/\o.ExactDict:=by
    rcases hk with ⟨kvs,hk⟩ | ⟨kvs,hk⟩
    ·obtain⟨_,_,_,_,o,_,_,e,ex,_⟩:=I.aN p _ hk
     exact⟨o,e,ex⟩
    ·obtain⟨_,_,_,_,o,_,_,e,ex,_⟩:=I.aN p _ hk
     exact⟨o,e,ex⟩
   obtain⟨o,e,ex⟩:=z
   refine⟨⟨o,e,ex.1⟩,fun a e2=>?_⟩
   cases e2
   exact⟨o,e,ex.2.1⟩
  ·obtain⟨o,_,_,_,e,ex,_⟩:=I.aN p _ hk
   refine⟨⟨o,e,ex.1⟩,fun a e2=>?_⟩
   cases e2
   exact⟨o,e,ex.2.1⟩
 | _=>exact False.elim ty
def HD (K:IC)(T:String)(r:V->List V->Hp->VK->Prop)(to:TE):TE:=fun IA H Q=>to IA H fun x H1=>Fg K T x H1/\r x [] H1 Q
def Ic (K:IC)(T:String)(r:V->List V->Hp->VK->Prop)(to:TE)(t:TA):TE:=fun IA H Q=>to IA H fun x H1=>Fg K T x H1/\t IA H1 fun xs H2=>r x xs H2 Q
variable {o e:Expr}{es:List Expr}{to:TE}{t:TA}{name:Str}{apos cpos:Pos}{T id:String}{r:V->List V->Hp->VK->Prop}
theorem Fh (pa:PlainAttrs T) (slot:Slot T name id) (hty:typeOf (.builtin id)=pure (.type "method_descriptor")) (hm:Fc X id r) (ho:PE X o to)
  (hbase:attributeBase o name X.env (eval o X.env)=eval o X.env:=by rfl) (hline:(apos.endLine == cpos.line)=true:=by rfl):PE X (.Call (.Attribute o name apos) [] [] cpos) (HD X.K T r to):=by
 intro pins s IA H Q I h
 refine wpAny_Call_method0_late hbase hline (aX (ho pins s IA H _ I h) fun v s1 ⟨x,H1,I1,r1,ty,q1⟩=>?_)
 obtain⟨h1,h2⟩:=zP I1 r1 ty
 exact⟨T,id,pa,slot,hty,h1,h2,Calls.callWith_builtin rfl (PySem.evalArgs_none (hm pins s1 IA H1 x [] v [] Q I1 r1 .nil q1))⟩
theorem gy (pa:PlainAttrs T) (slot:Slot T name id) (hty:typeOf (.builtin id)=pure (.type "method_descriptor")) (hm:Fc X id r) (ho:PE X o to) (ha:PA X (e::es) t)
  (hbase:attributeBase o name X.env (eval o X.env)=eval o X.env:=by rfl)
  (hfew:((backTo cpos (starEach (e::es) X.env)).all (fun x=>!x.1)&&(backToKw cpos (keywordEach [] X.env)).all (fun x=>x.1.isSome)
   && decide ((e::es).length+([]:List Keyword).length+(if ([]:List Keyword).isEmpty then 0 else 1)<30))=true:=by rfl)
  (hline:(apos.endLine == cpos.line)=true:=by rfl) (hs:starEach (e::es) X.env=(false,eval e X.env)::starEach es X.env:=by rfl) (hplain:(backTo cpos (starEach es X.env)).any (·.1)=false:=by rfl) :
  PE X (.Call (.Attribute o name apos) (e::es) [] cpos) (Ic X.K T r to t):=by
 intro pins s IA H Q I h
 refine wpAny_Call_method_late hbase hfew hline rfl (aX (ho pins s IA H _ I h) fun v s1 ⟨x,H1,I1,r1,ty,q1⟩=>?_)
 obtain⟨h1,h2⟩:=zP I1 r1 ty
 refine⟨T,id,pa,slot,hty,h1,h2,?_⟩
 have hA:=ha cpos pins s1 IA H1 _ I1 q1
 rw [hs] at hA ⊢
 refine Calls.callWith_builtin (by show (false||(backTo cpos (starEach es X.env)).any (·.1))=false;rw [hplain] <;> rfl) (Calls.evalArgs_plain ?_)
 exact aX hA fun us s2 ⟨vs,H2,I2,r2,q2⟩=>hm pins s2 IA H2 x vs v us Q I2 r1 r2 q2
end
def zQ (X:Cx)(id:String)(r:V->List V->Hp->VK->Prop):Prop :=
 ∀(pins:List (Addr×Obj)) (s:Shared) (IA : St) (H:Hp) (x:V) (xs:List V) (v:Value) (us:List Value) (Q:VK),Inv X pins IA H s->RelV x v->Vals xs us->r x xs H Q ->
  wpAny (model X.prog X.w) X.A (call (.builtin id) (v::us)) (EP X pins IA Q) X.xe s
theorem Vals.one:∀{x:V} {us:List Value},Vals [x] us->∃u,us=[u]/\RelV x u
 | _,_,.cons r .nil=>⟨_,rfl,r⟩
theorem Vals.zero:∀{us:List Value},Vals [] us->us=[]
 | _,.nil=>rfl
theorem Vals.dropLast {xs:List V}{us:List Value}(h:Vals xs us):Vals xs.dropLast us.dropLast:=by
 induction h with
 | nil=>exact .nil
 | cons r t ih =>
  cases t with
  | nil=>exact .nil
  | cons q t'=>exact .cons r ih
theorem yI {α : Type}(l:List α):l.eraseIdx (l.length-1)=l.dropLast:=by
 induction l with
 | nil=>rfl
 | cons a r ih =>
  cases r with
  | nil=>rfl
  | cons b r =>
   have e:(a::b::r).length-1=((b::r).length-1)+1:=by
    have h1:(a::b::r).length=r.length+2:=rfl
    have h2:(b::r).length=r.length+1:=rfl
    omega
   rw [e,List.eraseIdx_cons_succ,ih]
   all_goals rfl
section
variable {X:Cx}{pins:List (Addr×Obj)}{IA : St}{H:Hp}{s:Shared}{l b:Addr}{xs ys zs:List V}
theorem Inv.BD {its its':List Value}{n:Nat}{f:Array Value->Array Value}{t':Nat}(I:Inv X pins IA H s)(hH:H l=some (.lst xs))
  (e:s.heap.get? l=some { cls:=.type "list",data:=.seq its.toArray n }) (hf:f its.toArray=its'.toArray) (hv:Vals ys its') (hz:ys.length<=sizeLine) :
  Inv X pins IA (upd H l (.lst ys)) { s with heap:=s.heap.update l (Obj.mapSeq f),toks:=t' }:=by
 have q:=PySem.IsL.update e f
 rw [hf] at q
 refine I.write (x:=l) (e:=l) (by rw [hH];exact trivial) (.inl rfl) (fun b' u hb hu=>(JF s.heap (Obj.mapSeq f) (Ne.symm hb)).trans hu) ⟨_,q⟩ ?_
 exact⟨hz,its',_,hv,q⟩
theorem Inv.HE {its:List Value}{t':Nat}(I:Inv X pins IA H s)(hv:Vals ys its)(hz:ys.length<=sizeLine) :
  Inv X pins IA (upd H s.heap.objs.size (.lst ys)) { s with heap:=s.heap.push { cls:=.type "list",data:=.seq its.toArray },toks:=t' } :=
 I.laid (fun _ _ q=>II _ q) (IF _) ⟨hz,its,0,hv,IK _ rfl⟩
theorem Inv.fresh (I:Inv X pins IA H s):H s.heap.objs.size=none:=I.aN.fresh (IF _)
theorem Inv.sr (I:Inv X pins IA H s)(hH:H l=some (.lst xs)):xs.length<=sizeLine/\∃(its:List Value) (n:Nat),Vals xs its/\xs.length=its.length/\s.heap.get? l=some { cls:=.type "list",data:=.seq its.toArray n }:=by
 obtain⟨z,its,n,r,e⟩:=I.aN l _ hH
 exact⟨z,its,n,r,r.length,e⟩
theorem BE {n:Nat}(h:n<=sizeLine):Builtin.List.listTooLong n=false:=by
 unfold Builtin.List.listTooLong
 exact decide_eq_false (by omega)
end
section
variable {X:Cx}
inductive DK  (x:V) (vs:List V) (H:Hp) (Q:VK):Prop
 | mk (l xs y:_) (_:x=.ref l) (_:vs=[y]) (_:H l=some (.lst xs)) (_:xs.length<sizeLine) (_:Q .bg (upd H l (.lst (xs++[y]))))
theorem eI:zQ X "list.append" DK:=by
 intro pins s IA H x vs v us Q I rx rv h
 obtain⟨l,xs,y,rfl,rfl,hH,hz,q⟩:=h
 cases rx
 obtain⟨u,rfl,ru⟩:=rv.one
 obtain⟨z,its,n,r,hl,e⟩:=I.sr hH
 refine call_meets F.slot_list_append ⟨_,e,rfl⟩ F.entry_list_append (F.args_list_append_2 _ _) (PySem.list_append l its.toArray n u (by rw [IX];omega)) ⟨e,?_⟩
 refine⟨.bg,_,I.BD (its':=its++[u]) hH e (by simp) (r.append (.cons ru .nil)) ?_,rfl,q⟩
 rw [IJ,List.length_singleton]
 omega
inductive DL  (x:V) (vs:List V) (H:Hp) (Q:VK):Prop
 | mk (l b xs zs:_) (_:x=.ref l) (_:vs=[.ref b]) (_:H l=some (.lst xs)) (_:H b=some (.lst zs)) (_:xs.length+zs.length<=sizeLine) (_:Q .bg (upd H l (.lst (xs++zs))))
theorem tT:zQ X "list.extend" DL:=by
 intro pins s IA H x vs v us Q I rx rv h
 obtain⟨l,b,xs,zs,rfl,rfl,hH,hB,hz,q⟩:=h
 cases rx
 obtain⟨u,rfl,ru⟩:=rv.one
 cases ru
 obtain⟨z,its,n,r,hl,e⟩:=I.sr hH
 obtain⟨z2,its2,n2,r2,hl2,e2⟩:=I.sr hB
 have hsz:its.toArray.size+its2.toArray.size<=sizeLine:=by rw [IX,IX];omega
 have hlong:¬(!its.toArray.isEmpty&&Builtin.List.listTooLong (its.toArray.size+its2.toArray.size))=true:=by
  rw [BE hsz,Bool.and_false]
  exact Je
 refine call_meets F.slot_list_extend ⟨_,e,rfl⟩ F.entry_list_extend (F.args_list_extend_2 _ _)
  (AutoSeq1.list_extend_list_list_0 l its.toArray n b its2.toArray n2 hlong (by rw [IX];omega) (by omega)) ⟨e,e2,?_⟩
 refine⟨.bg,_,I.BD (its':=its++its2) hH e (by simp) (r.append r2) ?_,rfl,q⟩
 rw [IJ]
 omega
inductive HF  (x:V) (vs:List V) (H:Hp) (Q:VK):Prop
 | mk (l xs y:_) (_:x=.ref l) (_:vs=[]) (_:H l=some (.lst xs)) (_:xs[xs.length-1]?=some y) (_:Q y (upd H l (.lst xs.dropLast)))
theorem Fi:zQ X "list.pop" HF:=by
 intro pins s IA H x vs v us Q I rx rv h
 obtain⟨l,xs,y,rfl,rfl,hH,hy,q⟩:=h
 cases rx
 have hus:=rv.zero
 subst hus
 obtain⟨z,its,n,r,hl,e⟩:=I.sr hH
 obtain⟨u,hu,ru⟩:=r.get hy
 have hy':its.toArray[its.toArray.size-1]?=some u:=by
  show its.toArray[its.length-1]?=some u
  rw [<-KN,<-hl]
  exact hu
 refine call_meets F.slot_list_pop ⟨_,e,rfl⟩ F.entry_list_pop (F.args_list_pop_1 _) (MeetsSeq.list_pop_last l its.toArray n u hy' (by rw [IX];omega)) ⟨e,?_⟩
 refine⟨y,_,I.BD (its':=its.dropLast) hH e ?_ r.dropLast ?_,ru,q⟩
 ·show its.toArray.eraseIdxIfInBounds (its.toArray.size-1)=its.dropLast.toArray
  rw [IX,List.eraseIdxIfInBounds_toArray,yI]
 ·rw [List.length_dropLast]
  omega
inductive HG  (x:V) (y:V) (H:Hp) (Q:VK):Prop
 | mk (l b xs zs:_) (_:x=.ref l) (_:y=.ref b) (_:H l=some (.lst xs)) (_:H b=some (.lst zs)) (_:xs.length+zs.length<=sizeLine) (_:∀p,H p=none->Q (.ref p) (upd H p (.lst (xs++zs))))
theorem Fj:dZ X (binaryOp .Add) HG:=by
 intro pins s IA H x y v u Q I rx ry h
 obtain⟨l,b,xs,zs,rfl,rfl,hH,hB,hz,q⟩:=h
 cases rx
 cases ry
 obtain⟨z,its,n,r,hl,e⟩:=I.sr hH
 obtain⟨z2,its2,n2,r2,hl2,e2⟩:=I.sr hB
 refine PySem.P.add_list e e2 ?_ (by rw [IX,IX];omega)
 have ea:its.toArray++its2.toArray=(its++its2).toArray:=by simp
 rw [ea]
 exact⟨.ref _,_,I.HE (t':=s.toks) (r.append r2) (by rw [IJ];omega),rfl,q _ I.fresh⟩
end
section
variable {prog:Program}{w:World}{A:Around}{E:Value->Shared->Prop}{s:Shared}
end
section
variable {X:Cx}
end
end L2
namespace GW
open PySem PySem.W PySem.Calls PyProof.Rows
theorem qD {P:Params}{h:Heap}:∀(ns:List Int) (vs:List Value),WellAll P h vs (ns.map WData.int)->IntsAre vs ns:=by
 intro ns
 induction ns with
 | nil =>
  intro vs w
  rw [List.map_nil] at w
  cases w
  exact .nil
 | cons n ns ih =>
  intro vs w
  rw [Jj] at w
  cases w with
  | cons a b =>
   cases a
   exact .cons _ _ (ih _ b)
theorem zR {l:OpenLaw}{n:Nat}(hn:l.most=some n){P:Params}{h:Heap}{args:List WData}{vals:List Value}
  (hpre:l.row.toRowW.claim.pre args=true) (hwl:WellAll P h vals args) :
  ∃a vs ns,vals=[Value.ref a]/\args=[WData.list (ns.map WData.int)]/\h.get? a=some { cls:=.type "list",data:=.seq vs.toArray }/\IntsAre vs ns/\ns.length<=n:=by
 have hsh:WShape.hasAll [] args [.list .int]=true:=(pre_splitW hpre).1
 have hc:l.pre.holds [] { args:=args }=true:=(pre_splitW hpre).2
 obtain⟨d,r,rfl,h1,h2⟩:=hasAllW_cons hsh
 obtain rfl:=hasAllW_nil h2
 obtain⟨xs,rfl,h3⟩:=hasW_list h1
 obtain⟨ns,rfl⟩:=items_int h3
 have hlen:ns.length<=n:=by
  unfold OpenLaw.pre at hc
  have h4:(WTm.not (.lt (.lit (.int (n:Int))) (.len (.arg 0)))).holds [] { args:=[.list (ns.map .int)] }=true:=by
   have h4:=(holds_andW hc).1
   rw [hn] at h4
   exact h4
  have h5:=condW_of h4 (w_not (w_lt w_lit (w_len_list (w_arg rfl))))
  rw [ID] at h5
  refine Nat.le_of_not_lt fun q=>?_
  have q':(n:Int)<((ns.length:Nat):Int):=by omega
  first
   | (rw [decide_eq_true q'] at h5;exact absurd h5 (by decide))
   | (simp at h5;omega)
 cases hwl with
 | cons w1 w2 =>
  cases w2
  cases w1 with
  | list ho hall=>exact⟨_,_,ns,rfl,rfl,ho,qD ns _ hall,hlen⟩
theorem zS (l:OpenLaw)(args:List WData):l.row.toRowW.claim.post args (.bool true) args=true :=
 postW_of (r:=l.row.toRowW) (X:=(true == true))
  (show WShape.has [] (.bool true) .bool=true by first | rfl | decide | simp [WShape.has,WShape.arms,WShape.armsAll])
  (show (WTm.eq .res (.lit (.bool true))).value [] { args:=args,res:=some (.bool true),after:=args }=some (.bool (true == true)) from w_eq_bool (w_res rfl) w_lit) rfl
theorem wJ {l:OpenLaw}{n:Nat}{q:Program}{loose:List Str}{XP:(Str->Option Value)->Heap->Prop}{YP:World->Heap->Prop}{d:DefRec}
  (hn:l.most=some n) (hdf:d.params.defaults=[])
  (call:∀(w:World) (dE s₁ : Shared) (mg mb:Str->Option Value) (fa:Addr) (o:Obj) (pm cd doc:Value) (a:Addr) (vs:List Value) (ns:List Int),
   Ground q loose [] XP w dE mg mb s₁.heap->YP w s₁.heap ->
   s₁.heap.get? fa=some o->o.data=.func (docDef d.name d.params d.body d.scope pm cd doc)->s₁.heap.CodeRec cd d.name->mg d.name=some (.ref fa) ->
   s₁.heap.get? a=some { cls:=.type "list",data:=.seq vs.toArray }->IntsAre vs ns->ns.length<=n->s₁.gens = #[] ->
   codeAny (model l.prog w) callerA (.call (.ref fa) ⟨[.ref a],[]⟩) (fun r s'=>r=.ok (.ret (.bool true))/\OldK s₁.heap s'.heap/\s'.os=s₁.os/\AllBare s'.gens) s₁) :
  WalkO q loose XP YP l.row.toRowW d [] (fun f vs=>PySem.call f vs):=by
 intro w dE s₁ mg mb G Y fa o pm cd doc dV kV ho hd hcd hD hmg hg args vals as hpre hlay hrd hwl hlo
 obtain rfl:dV=.none:=Dflts.none hD hdf
 obtain rfl:kV=.none:=Dflts.noKw hD
 obtain⟨a,vs,ns,rfl,rfl,hobj,hints,hlen⟩:=zR hn hpre hwl
 refine enter_call (LB (call w dE s₁ mg mb fa o pm cd doc a vs ns G Y ho (fd_plain hd) hcd hmg hobj hints hlen hg) fun r s' hq=>?_)
 obtain⟨rfl,h2,h3,h4⟩:=hq
 exact⟨.inl ⟨.bool true,.bool true,[],rfl,fun _=>rfl,.bool true,zS l _,fun _=>⟨J0.nil,fun _ hm=>(nomatch hm)⟩⟩,h2,h3,h4⟩
section
variable {prog:Program}{w:World}{A:Around}{E:Value->Shared->Prop}{s:Shared}{K:Frag}
def ledger (h:Heap)(L d:Addr):List (Addr×Obj):=(Js h.objs.size).filterMap fun a=>if a=L\/a=d then none else (h.get? a).map fun o=>(a,o)
end
end GW
namespace L2
open PySem PySem.Spec PyProof.Rows
theorem mW:∀{vs:List Value} {ns:List Int},IntsAre vs ns->Vals (ns.map V.int) vs
 | _,_,.nil=>.nil
 | _,_,.cons n t h=>.cons ⟨t,rfl⟩ (mW h)
def BF (H:Hp):Prop:=∀b,H b=none\/∃o xs,H b=some (.mL o (.lst xs))
theorem BG {P:Program}{w:World}{K:IC}{mg mb:Str->Option Value}{CX:mz}{k:Nat}{fa a:Addr}{fd:FuncData}{x:Str}{sp:Sp}{s₁ : Shared}{vs:List Value}{ns:List Int}
    (KX:K.In s₁.heap) (hns:s₁.heap.Ns mainGlobals mg) (hb:s₁.heap.Ns builtinsNs mb) (hbb:∀x:Str,x ≠ "__name__" -> mb x=bootBuiltins x) (hlim:s₁.heap.NoLimit) (hg:s₁.gens = #[])
    (ha:s₁.heap.get? a=some { cls:=.type "list",data:=.seq vs.toArray }) (hi:IntsAre vs ns) (hl:ns.length<=sizeLine) (hr:cG k callerA)
    (F:∀base:Heap,K.In base->base.Ns mainGlobals mg->aW P w K mg base CX k fa fd [x] sp) (hbind:∀(s:Shared) (u:Value),BindsTo s fd ⟨[u],[]⟩ [(x,u)])
    (hsp:∀H:Hp,BF H->aO K H a (ns.map V.int)->sp [.ref a] H (fun v _=>v=.bl true) fun _ _ _=>False)
    (hCX:∀H e s',CX [] H s₁ (fun _ _ _=>False) e s'->False) :
    codeAny (model P w) callerA (.call (.ref fa) ⟨[.ref a],[]⟩) (fun r s'=>r=.ok (.ret (.bool true))/\OldK s₁.heap s'.heap/\s'.os=s₁.os/\AllBare s'.gens) s₁:=by
  have rv:=mW hi
  have lenV:=hi.length
  have core:∀H:Hp,BF H->aO K H a (ns.map V.int)->di P w H s₁.heap->(∀b,H b≠none->b=a)->(H a≠none->K.lookup a=none) ->
      codeAny (model P w) callerA (.call (.ref fa) ⟨[.ref a],[]⟩) (fun r s'=>r=.ok (.ret (.bool true))/\OldK s₁.heap s'.heap/\s'.os=s₁.os/\AllBare s'.gens) s₁:=by
    intro H hO hS aN hA hK
    have base_of:∀{b:Addr} {o:Obj},s₁.heap.get? b=some o->H b=none->(lj s₁.heap H).get? b=some o:=fun e n=>Bd e n
    have noA:∀{b:Addr} {o:Obj} {es:Array DictEntry} {ep:Nat},s₁.heap.get? b=some o->o.data=.dict es ep->H b=none:=fun {b o es ep} e d=>by
      cases q:H b with
      | none=>rfl
      | some u =>
        have e':b=a:=hA b (by rw [q];simp)
        subst e'
        rw [ha] at e;cases e
        have d':Data.seq vs.toArray _=Data.dict es ep:=d
        cases d'
    have nsK:∀{b:Addr} {m:Str->Option Value},s₁.heap.Ns b m->(lj s₁.heap H).Ns b m:=fun {b m} ⟨o,es,ep,e,d,r⟩=>⟨o,es,ep,base_of e (noA e d),d,r⟩
    have hKb:K.In (lj s₁.heap H):=fun b o e=>base_of (KX b o e) (by
      cases q:H b with
      | none=>rfl
      | some u =>
        have e':b=a:=hA b (by rw [q];simp)
        subst e'
        rw [hK (by rw [q];simp)] at e;cases e)
    have hM:Mod K mg (lj s₁.heap H):=⟨hKb,nsK hns,⟨mb,nsK hb,hbb⟩,let ⟨mc,h1,h2⟩:=hlim;⟨mc,nsK h1,h2⟩⟩
    have e0:pM P w K mg (lj s₁.heap H) callerA [] s₁ H:=⟨rfl,hM,fun b o e=>Dv e,Nat.le_of_eq (zz _ _),trivial,fun b hb=>absurd (show b∈([]:List Addr) from hb) (by simp),aN,.of_eq hg⟩
    refine LB ((F _ hKb (nsK hns)).run callerA [] s₁ H ⟨[.ref a],[]⟩ [.ref a] [.ref a] _ _ hr e0 (hbind s₁ (.ref a)) (.cons rfl .nil) (hsp H hO hS)) fun r s' h=>?_
    cases r with
    | error e=>exact (hCX H e s' h).elim
    | ok fl =>
      cases fl with
      | next=>exact False.elim h
      | brk=>exact False.elim h
      | cont=>exact False.elim h
      | ret u =>
        obtain⟨v,H',os,bare,un,hok',r',q⟩:=h
        have q':v=.bl true:=q
        subst q'
        obtain rfl:u=Value.bool true:=r'
        refine⟨rfl,OldK.of_keep fun b o e=>?_,os,bare⟩
        cases q:H b with
        | none=>exact un.keep b o e q (by intro z;exact absurd (show b∈([]:List Addr) from z) (by simp)) (by simp)
        | some u =>
          rcases hO b with z | ⟨ob,xs,z⟩
          . rw [q] at z;cases z
          . have z2:=un.gH b ob _ z
            obtain⟨e1,_⟩:=aN b _ z
            obtain⟨e2,_⟩:=hok' b _ z2
            rw [e] at e1;cases e1
            exact e2
  cases hk:K.lookup a with
  | some o =>
    have e:=KX a o hk
    rw [ha] at e
    cases e
    refine core (fun _=>none) (fun _=>.inl rfl) (.inr ⟨_,vs.toArray,_,hk,rfl,rfl,rfl,by rw [IX,lenV];exact hl,by simpa using rv⟩) (fun b u z=>by have z':(none:Option HO)=some u:=z;cases z') (fun b z=>absurd rfl z) fun z=>absurd rfl z
  | none =>
    refine core (fun b=>if b=a then some (.mL { cls:=.type "list",data:=.seq vs.toArray } (.lst (ns.map V.int))) else none) (fun b=>?_) (.inl (.inr ⟨{ cls:=.type "list",data:=.seq vs.toArray },if_pos rfl⟩)) (fun b u z=>?_) (fun b z=>?_) fun _=>hk
    . by_cases hb:b=a
      . exact .inr ⟨_,_,if_pos hb⟩
      . exact .inl (if_neg hb)
    . by_cases hb:b=a
      . have z':=(if_pos hb).symm.trans z
        cases z'
        subst hb
        exact⟨ha,by rw [ID];exact hl,vs,_,rv,ha⟩
      . have z':=(if_neg hb).symm.trans z
        cases z'
    . by_cases hb:b=a
      . exact hb
      . exact absurd (if_neg hb) z
abbrev KOf {K:IC}{h:Heap}(_:K.In h):IC:=K
theorem DM {l:PySem.W.OpenLaw}{n k:Nat}{q:Program}{loose:List Str}{XP:(Str->Option Value)->Heap->Prop}{YP:World->Heap->Prop}{d:DefRec}{K:Params->IC}{CX:World->mz}{sp:World->Sp}{x:Str}
  (hn:l.most=some n) (hn2:n<=sizeLine) (hdf:d.params.defaults=[]) (hr:cG k callerA)
  (hY:∀(w:World) (h:Heap),YP w h->(K w.params).In h)
  (F:∀(w:World) (mg:Str->Option Value) (fa:Addr) (h:Heap),(K w.params).In h->h.Ns mainGlobals mg->mg d.name=some (.ref fa) ->
   ∃fd:FuncData,(∀(s:Shared) (u:Value),BindsTo s fd ⟨[u],[]⟩ [(x,u)]) /\
    ∀base:Heap,(K w.params).In base->base.Ns mainGlobals mg->aW l.prog w (K w.params) mg base (CX w) k fa fd [x] (sp w))
  (hsp:∀(w:World) (H:Hp) (a:Addr) (ns:List Int),ns.length<=n->BF H->aO (K w.params) H a (ns.map V.int)->sp w [.ref a] H (fun v _=>v=.bl true) fun _ _ _=>False)
  (hCX:∀(w:World) (H:Hp) (s:Shared) (e:Value) (s':Shared),CX w [] H s (fun _ _ _=>False) e s'->False) :
  PySem.W.WalkO q loose XP YP l.row.toRowW d [] (fun f vs=>PySem.call f vs):=by
 refine GW.wJ hn hdf fun w dE s₁ mg mb fa o pm cd doc a vs ns G Y ho hd hcd hmg hobj hints hlen hg=>?_
 have KX:=hY w _ Y
 obtain⟨fd,hb,hF⟩:=F w mg fa _ KX G.T.g hmg
 exact BG KX G.T.g G.T.b G.T.builtins G.T.nolimit hg hobj hints (IQ hlen hn2) hr hF hb (fun H hO hS=>hsp w H a ns hlen hO hS) fun H e s'=>hCX w H s₁ e s'
def inClass (s:Stmt)(j:Nat):Stmt:=match s with
 | .ClassDef _ _ _ body _ _ _ _ _ _ _=>body.getD j (.Pass ⟨0,0,0,0⟩)
 | _=>.Pass ⟨0,0,0,0⟩
def dI (s:Stmt):Arguments:=match s with
 | .FunctionDef _ a _ _ _ _ _ _ _ _=>a
 | _=>{ posonlyargs:=[],args:=[],vararg:=none,kwonlyargs:=[],kw_defaults:=[],kwarg:=none,defaults:=[] }
def cZ (s:Stmt):List Stmt:=match s with
 | .FunctionDef _ _ b _ _ _ _ _ _ _=>b
 | _=>[]
def au (s:Stmt):Scope:=match s with
 | .FunctionDef _ _ _ _ _ _ sc _ _ _=>sc
 | _=>{ kind:=.function,names:=[],isGenerator:=false,isCoroutine:=false }
abbrev bQ:mz:=fun _ _ _ _ _ _=>False
abbrev E0:XK:=fun _ _ _=>False
theorem uW {X:Cx}:Passes bQ X E0:=fun _ _ _ _ _ _ _ h=>h.elim
structure bS (K:IC) (x qual:Str) (st:Stmt) (f:Addr) (fd:FuncData):Prop where
 ex:∃(oc:Value) (od:Option Addr) (kV doc pm:Value) (an:Option Addr) (cdv ct:Value) (osl:Array (Option Value)),
  fd=Jv x qual (dI st) (cZ st) (au st) .none kV doc pm an cdv ct/\K.lookup f=some ⟨oc,od,.func fd,osl⟩/\JZ K cdv qual=true
 kp:JC K (.ref f)=true
section
variable {P:Program}{w:World}{K:IC}{mg:Str->Option Value}{base:Heap}
theorem bS.ok {x qual:Str}{st:Stmt}{f:Addr}{fd:FuncData}{N ps:List Str}{k:Nat}{sp:Sp}(F:bS K x qual st f fd)(S:aM N ps (au st))(len:∀vs H Q E,sp vs H Q E->vs.length=ps.length)
  (hbody:∀(cdv:Value) (A:Around) (outer:List Env) (s:Shared) (H:Hp) (vs:List V) (Q:VK) (E:XK),cG k (A.deeper (envOfC qual (au st) s.heap.objs.size f cdv))->sp vs H Q E ->
   ∃t,fZ (e7 bQ P w K mg base N qual (au st) f cdv A outer s H E).oW (cZ st) t/\t { nx:=fun _ H'=>Q .bg H',rt:=Q } (start N vs) H):aW P w K mg base bQ (k+1) f fd ps sp:=by
 obtain⟨oc,od,kV,doc,pm,an,cdv,ct,osl,rfl,lk,hcd⟩:=F.ex
 refine yD lk hcd S len fun A outer s H vs Q E hr hsp=>?_
 obtain⟨t,h,q⟩:=hbody cdv A outer s H vs Q E hr hsp
 exact⟨t,h.oW,q⟩
theorem bS.binds {x qual:Str}{st:Stmt}{f:Addr}{fd:FuncData}{ps:List Str}(F:bS K x qual st f fd)
  (h:∀(kV doc pm:Value) (an:Option Addr) (cdv ct:Value) (us:List Value),us.length=ps.length->bindArgs (Jv x qual (dI st) (cZ st) (au st) .none kV doc pm an cdv ct) ⟨us,[]⟩=pure (ps.zip us)):Binds K fd ps []:=by
 obtain⟨oc,od,kV,doc,pm,an,cdv,ct,osl,rfl,lk,hcd⟩:=F.ex
 exact .all (h kV doc pm an cdv ct)
theorem zT {x qual:Str}{st:Stmt}{f:Addr}{oc:Value}{od an:Option Addr}{osl:Array (Option Value)}{kV doc pm cdv ct:Value}(l:K.lookup f=some ⟨oc,od,.func (Jv x qual (dI st) (cZ st) (au st) .none kV doc pm an cdv ct),osl⟩)
  (c:JZ K cdv qual=true) (k:JC K (.ref f)=true):bS K x qual st f (Jv x qual (dI st) (cZ st) (au st) .none kV doc pm an cdv ct):=⟨⟨oc,od,kV,doc,pm,an,cdv,ct,osl,rfl,l,c⟩,k⟩
end
theorem gB {A:Around}{k:Nat}(hr:cG k A):A.units+1<cLine:=Ko (Nat.add_le_add_left (by decide:1<=64) _) hr.units
theorem bp {n:Nat}(h:n<=1000):n<sizeLine:=Ko h (by decide)
section
variable {X:Cx}
theorem pv (i:Nat){x:Str}{pos:Pos}(hN:X.N[i]?=some x:=by rfl)(hv:EO X.env.scope x:=by first | exact Or.inl rfl | exact Jg (Or.inl rfl) | exact Jg (Jg rfl))(hd:(x == ("__debug__" : Str))=false:=by decide)
  (hcd:(x == ("__classdict__" : Str))=false:=by decide):PE X (.Name x pos) (ER i):=ES hN hv hd hcd
end
theorem bO {A B:Prop}(h:B):if false=true then A else B:=by
 rw [if_neg Je]
 exact h
theorem bJ {A B:Prop}(h:A):if true=true then A else B:=by
 rw [if_pos rfl]
 exact h
theorem dW {c A B:Prop}[Decidable c](h1:c->A)(h2:¬c->B):if c then A else B:=by
 by_cases h:c
 ·rw [if_pos h]
  exact h1 h
 ·rw [if_neg h]
  exact h2 h
def af (H H':Hp):Prop:=∀b o,H b=some o->H' b=some o
theorem af.refl (H:Hp):af H H:=fun _ _ h=>h
theorem af.trans {H H1 H2:Hp}(a:af H H1)(b:af H1 H2):af H H2:=fun c o h=>b c o (a c o h)
theorem af.free {H H':Hp}(e:af H H'){l:Addr}(h:H' l=Option.none):H l=Option.none:=by
 cases q:H l with
 | none=>rfl
 | some o =>
  rw [e l o q] at h
  cases h
theorem af.seq {K:IC}{H H':Hp}{a:Addr}{xs:List V}(e:af H H')(h:aO K H a xs):aO K H' a xs:=by
 rcases h with (h | ⟨o,h⟩) | h
 ·exact .inl (.inl (e _ _ h))
 ·exact .inl (.inr ⟨o,e _ _ h⟩)
 ·exact .inr h
section
variable {X:Cx}
theorem DN:dZ X (binaryOp .Mult) (rI IntMulOk fun i j=>.int (i*j)):=xi fun _ _ _ _ _ _ _ hc q=>mul_int q hc
def Gv (_i j:Int):Prop:=0<j/\j.natAbs.log2<9000
theorem BH:dZ X (binaryOp .FloorDiv) (rI Gv fun i j=>.int (i / j)):=xi fun i j _ _ _ _ _ hc q=>by
 have h1:(0:Int)<j:=hc.1
 exact floordiv_int (by omega) (by rw [Int.fdiv_eq_ediv_of_nonneg i (by omega)];exact q) (.inl (PyProof.noPylong_of_log2 hc.2))
structure Own (P:Program) (w:World) (K:IC) (mg:Str->Option Value) (base:Heap) (x:Str) (k:Nat) (ps:List Str) (sp:Sp):Prop where
 ex:∃f fd,aW P w K mg base bQ k f fd ps sp/\mg x=some (.ref f)/\JC K (.ref f)=true/\Binds K fd ps []
variable {x:Str}{k:Nat}{ps:List Str}{sp:Sp}{e:Expr}{es:List Expr}{t:TA}{p pos:Pos}
theorem Fl (o:Own X.prog X.w X.K X.mg X.base x k ps sp)(hr:cG k X.A)(hg:Gl X x)(ha:PA X (e::es) t)
  (hdb:(x == ("__debug__" : Str))=false:=by decide) (he:starEach (e::es) X.env=(false,eval e X.env)::starEach es X.env:=by rfl)
  (hpl:(backTo pos (starEach es X.env)).any (·.1)=false:=by rfl):PE X (.Call (.Name x p) (e::es) [] pos) (uU sp [] E0 t):=by
 obtain⟨f,fd,F,hm,hk,hb⟩:=o.ex
 exact xn F hr hg hm hk hb .nil uW ha hdb he hpl
end
theorem eE {α : Type}{x:α}{xs:List α}:fG (x::xs) 0=some x:=cJ (j:=0) rfl
theorem en {α : Type}{x y:α}{xs:List α}:fG (x::y::xs) 1=some y:=cJ (j:=1) rfl
theorem at2 {α : Type}{x y z:α}{xs:List α}:fG (x::y::z::xs) 2=some z:=cJ (j:=2) rfl
theorem yJ {α : Type}{xs:List α}{i:Int}(h0:0<=i)(h1:i<xs.length):∃v,fG xs i=some v/\v∈xs:=by
 obtain⟨j,rfl⟩:∃j:Nat,i=j:=⟨i.toNat,by omega⟩
 have hj:j<xs.length:=by omega
 exact⟨xs[j],cJ (by simp [hj]),KO hj⟩
theorem bT:bootBuiltins "len" = some (.builtin "len"):=by decide +kernel
theorem zU:bootBuiltins "min" = some (.builtin "min"):=by decide +kernel
theorem Fm:bootBuiltins "max" = some (.builtin "max"):=by decide +kernel
theorem i6:bootBuiltins "isinstance" = some (.builtin "isinstance"):=by decide +kernel
theorem Fn:bootBuiltins "int" = some (.type "int"):=by decide +kernel
theorem cf:bootBuiltins "tuple" = some (.type "tuple"):=by decide +kernel
theorem xu:bootBuiltins "list" = some (.type "list"):=by decide +kernel
def cT (H:Hp)(b:Addr):Prop:=∃x y:Int,H b=some (.lst [.int x,.int y])/\0<=y/\y<2147483648
def Fix (b:Addr)(H H':Hp):Prop:=∀c o,H c=some o->c≠b->H' c=some o
theorem Fix.trans {b:Addr}{H H1 H2:Hp}(u:Fix b H H1)(v:Fix b H1 H2):Fix b H H2:=fun c o h n=>v c o (u c o h n) n
theorem Fix.C3 {b:Addr}{H:Hp}{o:HO}:Fix b H (upd H b o):=fun c u h n=>by rw [ao n];exact h
theorem Fix.new {b p:Addr}{H:Hp}{o:HO}(hp:H p=none):Fix b H (upd H p o):=fun c u h _=>by rw [ao (ar h hp)];exact h
theorem Fix.of_same {b:Addr}{H H':Hp}(h:af H H'):Fix b H H':=fun c o e _=>h c o e
theorem af.new {p:Addr}{H:Hp}{o:HO}(hp:H p=none):af H (upd H p o):=fun c u h=>by rw [ao (ar h hp)];exact h
theorem cT.new {b p:Addr}{H:Hp}{o:HO}(h:cT H b)(hp:H p=none):cT (upd H p o) b:=by
 obtain⟨x,y,e,q⟩:=h
 exact⟨x,y,by rw [ao (ar e hp)];exact e,q⟩
theorem cT.same {b:Addr}{H H':Hp}(h:cT H b)(s:af H H'):cT H' b:=by
 obtain⟨x,y,e,q⟩:=h
 exact⟨x,y,s _ _ e,q⟩
theorem xw {α : Type}{x0:α}:[x0].length<=sizeLine:=by show 1<=sizeLine;decide
theorem ln2 {α : Type}{x0 x1:α}:[x0,x1].length<=sizeLine:=by show 2<=sizeLine;decide
theorem xx {α : Type}{x0 x1 x2:α}:[x0,x1,x2].length<=sizeLine:=by show 3<=sizeLine;decide
theorem Ie {α : Type}{x0 x1 x2 x3 x4:α}:[x0,x1,x2,x3,x4].length<=sizeLine:=by show 5<=sizeLine;decide
theorem Ig {α : Type}{x0 x1 x2 x3 x4 x5 x6:α}:[x0,x1,x2,x3,x4,x5,x6].length<=sizeLine:=by show 7<=sizeLine;decide
theorem af.kJ {b:Addr}{H H1 H2:Hp}(s:af H H1)(n:H b=none)(f:Fix b H1 H2):af H H2:=fun c o e=>f c o (s c o e) (ar e n)
theorem cT.de {b p:Addr}{H:Hp}{xs:List V}(h:cT H b)(e:H p=some (.tup xs)):p≠b:=by
 obtain⟨x,y,e1,_⟩:=h
 exact bU e e1 (by intro z;cases z)
theorem cT.er {b p:Addr}{H:Hp}(h:cT H b)(e:H p=none):p≠b:=by
 obtain⟨x,y,e1,_⟩:=h
 exact fun z=>ar e1 e z.symm
inductive C4 (K:IC) (vs:List V) (H:Hp) (Q:VK) (_:XK):Prop
 | mk (a:Addr) (ns:List Int) (k:Int) (_:vs=[.ref a,.int k]) (_:aO K H a (ns.map V.int)) (_:0<=k) (_:∀b H',H b=none->cT H' b->af H H'->Q (.ref b) H')
inductive iX  (vs:List V) (H:Hp) (Q:VK) (_:XK):Prop
 | mk (b:Addr) (m:Int) (_:vs=[.ref b,.int m]) (_:cT H b) (_:(0<m/\m.natAbs.log2<9000)) (_:∀r H',0<=r->r<m->cT H' b->Fix b H H'->Q (.int r) H')
inductive uX (K:IC) (vs:List V) (H:Hp) (Q:VK) (_:XK):Prop
 | mk (a:Addr) (ns:List Int) (_:vs=[.ref a]) (_:aO K H a (ns.map V.int)) (_:ns.length<=63) (_:∀H',Q (.bl true) H')
def kK (cells:List (Str×Addr)):List (Str×NameKind)->List (Str×Addr)->List (Str×Addr)
 | [],cs=>cs
 | (n,k)::r,cs=>kK cells r (if k == .free then (n,(cells.lookup n).getD 0)::cs else cs)
theorem qE {scope:Scope}{env:Env}(hf:∀y∈scope.names,y.2=.free->∃c,env.cells.lookup y.1=some c):closureFor scope env=pure (kK env.cells scope.names []):=by
 have key:∀(names:List (Str×NameKind)) (cs:List (Str×Addr)),(∀y∈names,y.2=.free->∃c,env.cells.lookup y.1=some c) ->
   (forIn names cs fun x r=>match x with
    | (name,kind)=>if (kind == NameKind.free)=true then (do let a <-cellOf env name;pure (ForInStep.yield ((name,a)::r))) else pure (ForInStep.yield r):Sem (List (Str×Addr)))=pure (kK env.cells names cs):=by
  intro names
  induction names with
  | nil=>intro cs _;rfl
  | cons y r ih =>
   intro cs hy
   obtain⟨n,k⟩:=y
   have ih':=fun cs=>ih cs fun z hz=>hy z (IM _ hz)
   rw [J1]
   by_cases hk:(k == NameKind.free)=true
   ·have e:k=.free:=by simpa using hk
    obtain⟨c,hc⟩:=hy (n,k) IP e
    have hc':env.cells.lookup n=some c:=hc
    simp only [hk,if_true,cellOf,hc',pure_bind,kK,Option.getD_some]
    exact ih' _
   ·have hk':(k == NameKind.free)=false:=by simpa using hk
    simp only [hk',JT,if_false,pure_bind,kK]
    exact ih' _
 unfold closureFor
 have e:=key scope.names [] hf
 show ((forIn scope.names ([]:List (Str×Addr)) fun x r=>match x with
    | (name,kind)=>if (kind == NameKind.free)=true then (do let a <-cellOf env name;pure (ForInStep.yield ((name,a)::r))) else pure (ForInStep.yield r):Sem (List (Str×Addr))) >>= fun r=>pure r)=_
 rw [e,pure_bind]
theorem mX {cells:List (Str×Addr)}:∀(names:List (Str×NameKind)) (cs:List (Str×Addr)),(∀y∈names,y.2=.free->∃c,cells.lookup y.1=some c) ->
  (∀x c,cs.lookup x=some c->cells.lookup x=some c)->∀x c,(kK cells names cs).lookup x=some c->cells.lookup x=some c
 | [],_,_,h,x,c,e=>h x c e
 | (n,k)::r,cs,hf,h,x,c,e=>by
  refine mX r _ (fun y hy=>hf y (IM _ hy)) (fun z d hz=>?_) x c e
  by_cases hk:(k == NameKind.free)=true
  ·rw [if_pos hk] at hz
   obtain⟨c',hc⟩:=hf (n,k) IP (by simpa using hk)
   have hc':cells.lookup n=some c':=hc
   rw [JK] at hz
   cases hzn:z == n with
   | true =>
    rw [hzn] at hz
    have:z=n:=by simpa using hzn
    subst this
    rw [hc'] at hz ⊢
    simpa using hz
   | false=>rw [hzn] at hz;exact h z d hz
  ·rw [if_neg hk] at hz;exact h z d hz
theorem sx {cells:List (Str×Addr)}{x:Str}:∀(names:List (Str×NameKind)) (cs:List (Str×Addr)),((x,NameKind.free)∈names\/∃c,cs.lookup x=some c)->∃c,(kK cells names cs).lookup x=some c
 | [],_,h=>by
  rcases h with h | h
  ·cases h
  ·exact h
 | (n,k)::r,cs,h=>by
  refine sx r _ ?_
  by_cases hk:(k == NameKind.free)=true
  ·rw [if_pos hk]
   cases hxn:x == n with
   | true=>exact .inr ⟨_,by rw [JK,hxn]⟩
   | false =>
    rcases h with h | ⟨c,h⟩
    ·rcases IE.mp h with h | h
     ·have:x=n:=(Prod.mk.inj h).1
      subst this
      simp at hxn
     ·exact .inl h
    ·exact .inr ⟨c,by rw [JK,hxn];exact h⟩
  ·rw [if_neg hk]
   rcases h with h | h
   ·rcases IE.mp h with h | h
    ·have:NameKind.free=k:=(Prod.mk.inj h).2
     subst this
     simp at hk
    ·exact .inl h
   ·exact .inr h
theorem jK {env:Env}{x:Str}{k:NameKind}(hk:k=.cell\/k=.free):∀{names:List (Str×NameKind)},(∀y∈names,y.2≠.cell) ->
  (names.map fun (n,k)=>if (k == NameKind.free&&env.scope.kind == .function&&env.kindOf n == some .cell) then (n,NameKind.cell) else (n,k)).lookup x=some k->(x,NameKind.free)∈names
 | [],_,h=>by simp at h
 | (n,q)::r,hc,h=>by
  have ih:=jK (env:=env) (x:=x) hk (names:=r) (fun y hy=>hc y (IM _ hy))
  have h':JE x ((if (q == NameKind.free&&env.scope.kind == .function&&env.kindOf n == some .cell)=true then (n,NameKind.cell) else (n,q))::_)=some k:=h
  by_cases hq:(q == NameKind.free&&env.scope.kind == .function&&env.kindOf n == some .cell)=true
  ·rw [if_pos hq,JK] at h'
   have eq:q=.free:=by
    rw [Jp,Jp] at hq
    simpa using hq.1.1
   cases hxn:x == n with
   | true =>
    have:x=n:=by simpa using hxn
    subst this;subst eq
    exact IP
   | false=>rw [hxn] at h';exact IM _ (ih h')
  ·rw [if_neg hq,JK] at h'
   cases hxn:x == n with
   | true =>
    rw [hxn] at h'
    have:x=n:=by simpa using hxn
    subst this
    have e:q=k:=IU.inj h'
    subst e
    rcases hk with hk | hk
    ·exact absurd hk (hc (x,q) IP)
    ·subst hk;exact IP
   | false=>rw [hxn] at h';exact IM _ (ih h')
theorem mY {env:Env}{x:Str}:∀{names:List (Str×NameKind)},names.lookup x=some .free ->
  (names.map fun (n,k)=>if (k == NameKind.free&&env.scope.kind == .function&&env.kindOf n == some .cell) then (n,NameKind.cell) else (n,k)).lookup x=some .cell \/
  (names.map fun (n,k)=>if (k == NameKind.free&&env.scope.kind == .function&&env.kindOf n == some .cell) then (n,NameKind.cell) else (n,k)).lookup x=some .free
 | [],h=>by simp at h
 | (n,q)::r,h=>by
  have ih:=mY (env:=env) (x:=x) (names:=r)
  show JE x ((if (q == NameKind.free&&env.scope.kind == .function&&env.kindOf n == some .cell)=true then (n,NameKind.cell) else (n,q))::_)=some .cell \/
   JE x ((if (q == NameKind.free&&env.scope.kind == .function&&env.kindOf n == some .cell)=true then (n,NameKind.cell) else (n,q))::_)=some .free
  rw [JK] at h
  by_cases hq:(q == NameKind.free&&env.scope.kind == .function&&env.kindOf n == some .cell)=true
  ·rw [if_pos hq,JK]
   cases hxn:x == n with
   | true=>exact .inl rfl
   | false=>rw [hxn] at h;exact ih h
  ·rw [if_neg hq,JK]
   cases hxn:x == n with
   | true=>rw [hxn] at h;exact .inr h
   | false=>rw [hxn] at h;exact ih h
def ia (X:Cx)(scope:Scope)(C:Addr)(N':List Str)(fp:List Addr)(s₁ : Shared)(H₁ : Hp):Cx where
 prog:=X.prog
 w:=X.w
 K:=X.K
 mg:=X.mg
 base:=X.base
 A:=X.A
 N:=N'
 dE:=s₁
 u9:=H₁
 env:=compEnvC scope (kK X.env.cells scope.names []) C X.env
 outer:=X.stack
 stack:=X.stack
 ex:=fp
 fn:=fun _=>false
 calm:=X.calm
 pn:=[]
 xe:=fun _ _=>False
def iC (X:Cx)(scope:Scope):List Str->List Nat->Prop
 | [],[]=>True
 | x::fr,j::js=>(X.N[j]?=some x/\(X.env.kindOf x=some .cell\/X.env.kindOf x=some .free)/\scope.names.lookup x=some .free)/\iC X scope fr js
 | _,_=>False
theorem iC.len {X:Cx}{scope:Scope}:∀{fr:List Str} {js:List Nat},iC X scope fr js->fr.length=js.length
 | [],[],_=>rfl
 | _::_,_::_,h=>by simp [iC.len h.2]
 | [],_::_,h=>h.elim
 | _::_,[],h=>h.elim
theorem iC.mem {X:Cx}{scope:Scope}{x:Str}:∀{fr:List Str} {js:List Nat},iC X scope fr js->x∈fr->X.env.kindOf x=some .cell\/X.env.kindOf x=some .free
 | [],[],_,h=>by cases h
 | a::fr,b::js,h,hm=>by
  rcases IE.mp hm with rfl | hm
  ·exact h.1.2.1
  ·exact iC.mem h.2 hm
 | [],_::_,h,_=>h.elim
 | _::_,[],h,_=>h.elim
theorem iC.get {X:Cx}{scope:Scope}:∀{fr:List Str} {js:List Nat} {i:Nat} {x:Str} {j:Nat},iC X scope fr js->fr[i]?=some x->js[i]?=some j ->
  X.N[j]?=some x/\(X.env.kindOf x=some .cell\/X.env.kindOf x=some .free)/\scope.names.lookup x=some .free
 | [],[],_,_,_,_,h,_=>by simp at h
 | a::fr,b::js,0,x,j,h,h1,h2=>by
  simp at h1 h2
  subst h1;subst h2
  exact h.1
 | a::fr,b::js,i+1,x,j,h,h1,h2=>iC.get h.2 (by simpa using h1) (by simpa using h2)
 | [],_::_,_,_,_,h,_,_=>h.elim
 | _::_,[],_,_,_,h,_,_=>h.elim
def mZ (n:Nat)(js:List Nat)(IA : St):St:=JR n none++js.map fun j=>IA.getD j none
theorem Fo {X:Cx}{pins:List (Addr×Obj)}{IA : St}{H:Hp}{s:Shared}{scope:Scope}{fp:List Addr}{C:Addr}{N':List Str}(I:Inv X pins IA H s)(hk:scope.kind=.function)(hcell:∀y∈scope.names,y.2≠.cell)
  (hf:∀y∈scope.names,y.2=.free->∃c,X.env.cells.lookup y.1=some c) (hC:s.heap.objs.size<=C) (hfp:∀b∈fp,hX X pins H b) (hlt:∀b∈fp,b<s.heap.objs.size):(ia X scope C N' fp s H).Ok:=by
 have ag:∀x c,(kK X.env.cells scope.names []).lookup x=some c->X.env.cells.lookup x=some c:=mX scope.names [] hf fun x c e=>by simp at e
 refine⟨I.ok.mod,hk,I.ok.glob,I.ok.blt,hC,fun x y c h1 h2=>I.ok.inj x y c (ag x c h1) (ag y c h2),fun x hx=>?_,(fun x c h=>(by cases h)),I.ok.hd,I.ok.frames,.inl rfl,fun b hb=>?_,I.bs,?_,fun b o e hb=>?_,fun b hb=>?_,I.stack,I.ky⟩
 ·refine sx scope.names [] (.inl ?_)
  rcases hx with hx | hx
  ·exact jK (.inl rfl) hcell hx
  ·exact jK (.inr rfl) hcell hx
 ·obtain⟨h1,h2,h3,h4,h5,h6⟩:=hfp b hb
  exact⟨IL (Ji (hlt b hb) hC),fun x c e=>h5 x c (ag x c e)⟩
 ·exact IQ I.ok.my I.sz
 ·obtain⟨h1,h2,h3,h4,h5,h6⟩:=hfp b hb
  rcases h4 with h4 | h4
  ·exact I.ok.mO b o e h4
  ·exact absurd (Ji (IG e) (IQ I.ok.my h4)) (Jd _)
 ·obtain⟨h1,h2,h3,h4,h5,h6⟩:=hfp b hb
  intro z
  rcases IE.mp (I.qq b z) with z | z
  ·exact h2 z
  ·exact h3 z
def vk (J:It)(n:Nat)(js:List Nat)(g:TG)(ct:TT)(te:TE)(acc:Addr)(IA : St)(H1:Hp)(Q:VK):Prop :=
 ∃W:Nat->Nat->List V->St->Hp->Prop,(∃m,W 0 m [] (mZ n js IA) (upd H1 acc (.lst [])))/\∀i m ys IB H2,W i m ys IB H2->H2 acc=some (.lst ys)/\ys.length<sizeLine /\
  ((J.stop i H2/\Q (.ref acc) H2)\/(J.go i H2/\∃N:List V->St->Hp->Prop,(∀ys' τ' H',N ys' τ' H'->∃m',m' < m/\W (i+1) m' ys' τ' H')/\∀x H3,J.tL i H2 x H3->g x IB H3 fun τ1 H4=>ct τ1 H4 fun b H5 =>
   if b=true then te τ1 H5 fun y H6=>H6 acc=some (.lst ys)/\N (ys++[y]) τ1 (upd H6 acc (.lst (ys++[y]))) else N ys τ1 H5))
def GY (n:Nat)(js:List Nat)(wi:TI)(g:TG)(ct:TT)(te:TE):TE:=fun IA H Q=>wi IA H fun J H1=>∀acc,H1 acc=none->vk J n js g ct te acc IA H1 Q
def zV (X:Cx)(ifs:List Expr)(t:TT):Prop :=
 ∀(pins:List (Addr×Obj)) (s:Shared) (IA : St) (H:Hp) (Q:Bool->Hp->Prop),Inv X pins IA H s->t IA H Q ->
  wpAny (model X.prog X.w) X.A (forIn ifs true fun c r=>if r=true then do let ok <-isTrue c X.env (eval c X.env);pure (ForInStep.yield ok) else pure (ForInStep.yield r)) (TP X pins IA Q) X.xe s
def Fp:TT:=fun _ H Q=>Q true H
theorem d9 {X:Cx}:zV X [] Fp:=fun _ _ IA H Q I h=>Lq ⟨H,I,h⟩
theorem oy {X:Cx}{c:Expr}{t:TT}(h:PT X c t):zV X [c] t:=by
 intro pins s IA H Q I q
 rw [J1]
 simp only [if_true,bind_assoc,pure_bind]
 refine Lo (aX (h pins s IA H Q I q) fun b s1 h1=>?_)
 exact Lq h1
section
variable {X:Cx}{pos:Pos}
theorem mI {prog:Program}{w:World}{A:Around}{R:Result->Shared->Prop}{s:Shared}{elt target iter:Expr}{ifs:List Expr}{scope:Scope}{pos:Pos}{it acc:Value}{env:Env}(I:Nat->Shared->Prop)
  (turn:∀n s,I n s->wpAny (model prog w) A (pyNext it) (fun r s₁=>match r with
   | none=>R (.ok .next) s₁
   | some v=>wpAny (model prog w) A (letOwnedTupleGo target it v) (fun _ s₁'=>wpAny (model prog w) A (assign target env v) (fun _ s₂ =>
     wpAny (model prog w) A (forIn ifs true fun c r=>if r=true then do let ok <-isTrue c env (eval c env);pure (ForInStep.yield ok) else pure (ForInStep.yield r)) (fun ok s₃ =>
      if ok=true then wpAny (model prog w) A (eval elt env) (fun x s₄ =>
       wpAny (model prog w) A (call (.builtin "list.append") [acc,x]) (fun _ s₅=>∃m,m<n/\I m s₅) (fun _ _=>False) s₄) (fun _ _=>False) s₃
      else ∃m,m<n/\I m s₃) (fun _ _=>False) s₂) (fun _ _=>False) s₁') (fun _ _=>False) s₁) (fun _ _=>False) s)
  (n:Nat) (h:I n s) :
  codeAny (model prog w) A (.compLoop (.ListComp elt [⟨target,iter,ifs,0⟩] scope pos) 0 it acc env) R s:=by
 refine codeAny_loop rfl I (fun n s hI=>?_) n h
 show wpAny _ A ((compTurn (.ListComp elt [⟨target,iter,ifs,0⟩] scope pos) 0 it acc env).onRaise (fun x=>do noteFrame x env;theTreesLotGoes x)) _ _ s
 refine wpAny_noted ?_
 rw [compTurn_list]
 refine Lo (LG (Lo (Lr (turn n s hI) (fun r s₁ h₁=>?_) fun _ _ h'=>h'.elim)))
 cases r with
 | none=>exact Lq h₁
 | some v =>
  refine Lo (Lr h₁ (fun _ s₁' h₁'=>?_) fun _ _ h'=>h'.elim)
  refine Lo (Lr h₁' (fun _ s₂ h₂=>Lo (Lr h₂ (fun ok s₃ h₃=>?_) fun _ _ h'=>h'.elim)) fun _ _ h'=>h'.elim)
  cases ok with
  | false=>exact Lq ⟨rfl,h₃⟩
  | true =>
   exact Lo (Lo (Lr h₃ (fun x s₄ h₄=>Lo (Lr h₄ (fun _ s₅ h₅=>Lq (Lq ⟨rfl,h₅⟩)) fun _ _ h'=>h'.elim)) fun _ _ h'=>h'.elim))
theorem xy {pins:List (Addr×Obj)}{IA : St}{H:Hp}{s:Shared}{E:Value->Shared->Prop}{tg elt iter:Expr}{ifs:List Expr}{scope:Scope}{g:TG}{ct:TT}{te:TE}{ts fr:List Str}{js:List Nat}
    {it:Addr} {fp:List Addr} {tn:Nat->Heap->Prop} {J:It} {Q:VK} {RR:Value->Addr->Result->Shared->Prop}
    (hc:X.calm=true) (hkind:scope.kind=.function) (hcell:∀y∈scope.names,y.2≠.cell) (hfree:∀y∈scope.names,y.2=.free->X.env.kindOf y.1=some .cell\/X.env.kindOf y.1=some .free)
    (hfr:iC X scope fr js) (htg:∀C fp s₁ H₁,PG (ia X scope C (ts++fr) fp s₁ H₁) tg g) (hct:∀C fp s₁ H₁,zV (ia X scope C (ts++fr) fp s₁ H₁) ifs ct) (hte:∀C fp s₁ H₁,PE (ia X scope C (ts++fr) fp s₁ H₁) elt te)
    (I:Inv X pins IA H s) (T:Turn X.prog X.w X.K tg J fp it tn) (st:tn 0 s.heap) (hfp:∀b∈fp,hX X pins H b)
    (h:∀acc,H acc=none->vk J ts.length js g ct te acc IA H Q)
    (hRR:∀acc C H' s' m,Inv X pins IA H' s'->s'.heap.Ns C m->H' C=none->s.heap.objs.size<=C->Q (.ref acc) H'->RR (.ref acc) C (.ok .next) s') :
    wpAny (model X.prog X.w) X.A (newList []) (fun acc s₃=>wpAny (model X.prog X.w) X.A (newFunctionEnv scope X.env.globals (kK X.env.cells scope.names []) [] X.env.qual none .none (some X.env)) (fun cenv s₄ =>
      codeAny (model X.prog X.w) X.A (.compStart (.ListComp elt [⟨tg,iter,ifs,0⟩] scope pos) 0 (.ref it) acc { cenv with scope:=relabel scope X.env }) (RR acc cenv.locals) s₄) E s₃) E s:=by
  have hf:∀y∈scope.names,y.2=.free->∃c,X.env.cells.lookup y.1=some c:=fun y hy e=>I.ok.has y.1 (hfree y hy e)
  have ag:∀x c,(kK X.env.cells scope.names []).lookup x=some c->X.env.cells.lookup x=some c:=mX scope.names [] hf fun x c e=>by simp at e
  have hlt:∀b∈fp,b<s.heap.objs.size:=fun b hb=>by
    obtain⟨o,e,_⟩:=T.obj _ _ st b hb
    exact IG e
  refine Lv (wpAny_newFunctionEnv hcell (by intro y hy;simp at hy) (fun h₁ hns₁ hsb₁=>?_) hkind)
  dsimp only at hns₁ hsb₁ ⊢
  generalize hH2:s.heap.push { cls:=.type "list",dict:=none,data:=.seq ([]:List Value).toArray }=G2 at hns₁ hsb₁ ⊢
  have hC:G2.objs.size=s.heap.objs.size+1:=by rw [<-hH2,Jh]
  have hDC:s.heap.objs.size≠G2.objs.size:=by rw [hC];exact IL (JD _)
  have hCle:s.heap.objs.size<=G2.objs.size:=by rw [hC];exact JI _
  have below:∀b,b<s.heap.objs.size->b≠G2.objs.size/\b≠s.heap.objs.size:=fun b hb=>⟨by rw [hC];exact IL (Jt hb),IL hb⟩
  have old:∀b o,s.heap.get? b=some o->h₁.get? b=some o:=fun b o e=>hsb₁.extBut b o (below b (IG e)).1 (II _ (hH2 ▸ II _ e))
  have hacc:h₁.get? s.heap.objs.size=some { cls:=.type "list",data:=.seq ([]:List Value).toArray }:=hsb₁.extBut _ _ hDC (II _ (hH2 ▸ IK _ rfl))
  have nD:H s.heap.objs.size=none:=I.aN.fresh (IF _)
  have nC:H G2.objs.size=none:=I.aN.fresh hCle
  obtain⟨W,⟨m0,w0⟩,turn⟩:=h s.heap.objs.size nD
  generalize hXb:ia X scope G2.objs.size (ts++fr) fp s H=Xb
  have Ib:∀tk,Inv Xb [] (mZ ts.length js IA) (upd H s.heap.objs.size (.lst [])) { s with heap:=h₁,toks:=tk }:=by
    intro tk
    subst hXb
    refine⟨Fo I hkind hcell hf hCle hfp hlt,rfl,I.bare,Un.laid old (IF _) nD,⟨_,hns₁,fun i x v e1 e2 e3=>?_⟩,fun x c e=>?_,?_,fun x c e=>?_,fun p hp=>absurd (show p∈([]:List (Addr×Obj)) from hp) (by simp),I.aN.laid old (IF _) ⟨by show 0<=sizeLine;decide,[],_,.nil,hacc⟩,?_⟩
    . have hi:ts.length<=i:=by
        refine Nat.le_of_not_lt fun hi=>?_
        unfold mZ at e2
        rw [JY (by simpa using hi),Lg] at e2
        split at e2 <;> cases e2
      have e1':fr[i-ts.length]?=some x:=by
        have e1'':(ts++fr)[i]?=some x:=e1
        rw [KJ hi] at e1''
        exact e1''
      unfold mZ at e2
      rw [KJ (by simpa using hi),Kn,IZ] at e2
      cases ej:js[i-ts.length]? with
      | none=>rw [ej] at e2;cases e2
      | some j =>
        rw [ej] at e2
        have e2':IA.getD j none=some v:=by simpa using e2
        obtain⟨q1,q2,q3⟩:=hfr.get e1' ej
        have e2'':IA[j]?=some (some v):=by
          rw [List.getD_eq_getElem?_getD] at e2'
          cases ez:IA[j]? with
          | none=>rw [ez] at e2';cases e2'
          | some z=>rw [ez] at e2';rw [show z=some v from e2']
        obtain⟨m,hn,hl⟩:=I.loc
        obtain⟨u,r,l⟩:=hl j x v q1 e2'' (by
          rcases q2 with q2 | q2
          . exact .inr (.inl q2)
          . exact .inr (.inr q2))
        refine⟨u,r,.inr ⟨mY q3,?_⟩⟩
        rcases l with ⟨l,_⟩ | ⟨_,c,lc,lv⟩
        . rcases q2 with q2 | q2 <;> (rw [l] at q2;cases q2)
        . obtain⟨c',hc'⟩:=sx (cells:=X.env.cells) scope.names [] (.inl (PySem.mem_of_lookup q3))
          have:=ag x c' hc'
          rw [lc] at this
          cases this
          obtain⟨o,ho,hd⟩:=lv
          exact⟨c,hc',o,old _ _ ho,hd⟩
    . obtain⟨v,o,ho,hd⟩:=I.cell x c (ag x c e)
      exact⟨v,o,old _ _ ho,hd⟩
    . show upd H s.heap.objs.size (.lst []) G2.objs.size=none
      rw [ao hDC.symm];exact nC
    . obtain⟨v,o,ho,hd⟩:=I.cell x c (ag x c e)
      rw [ao (IL (IG ho))]
      exact I.dH x c (ag x c e)
    . show (mZ ts.length js IA).length=(ts++fr).length
      unfold mZ
      rw [IJ,Kn,ID,IJ,hfr.len]
  have fpB:∀{H':Hp},(∀b∈fp,H' b=none)->∀b∈fp,hX Xb [] H' b:=fun {H'} hn b hb=>by
    subst hXb
    obtain⟨h1,h2,h3,h4,h5,h6⟩:=hfp b hb
    refine⟨hn b hb,(below b (hlt b hb)).1,fun z=>?_,.inl hb,fun x c e=>h5 x c (ag x c e),fun p hp=>absurd (show p∈([]:List (Addr×Obj)) from hp) (by simp)⟩
    rcases IE.mp (I.qq b z) with z | z
    . exact h2 z
    . exact h3 z
  have fin:∀{IB : St} {H':Hp} {s':Shared},Inv Xb [] IB H' s'->Q (.ref s.heap.objs.size) H'->RR (.ref s.heap.objs.size) G2.objs.size (.ok .next) s':=fun {IB H' s'} Jb q=>by
    subst hXb
    obtain⟨m,hn,_⟩:=Jb.loc
    refine hRR _ _ H' s' m (I.CZ (ch:=fp) Jb.os Jb.base Jb.aN Jb.bare fun b hb=>?_) hn Jb.free hCle q
    obtain⟨h1,h2,h3,h4,h5,h6⟩:=hfp b hb
    exact⟨h4,h2,h5,h6⟩
  have loop:∀tk,codeAny (model X.prog X.w) X.A (.compLoop (.ListComp elt [⟨tg,iter,ifs,0⟩] scope pos) 0 (.ref it) (.ref s.heap.objs.size) (compEnvC scope (kK X.env.cells scope.names []) G2.objs.size X.env))
        (RR (.ref s.heap.objs.size) G2.objs.size) { s with heap:=h₁,toks:=tk }:=by
    intro tk
    refine mI (fun n s'=>∃i ys IB H',Inv Xb [] IB H' s'/\tn i s'.heap/\(∀b∈fp,H' b=none)/\W i n ys IB H') ?_ m0 ⟨0,[],_,_,Ib tk,T.keep _ _ _ st fun b hb o e=>old b o e,fun b hb=>?_,w0⟩
    . rintro n s3 ⟨i,ys,IB,H3,I3,st3,fr3,w3⟩
      have htg':=htg G2.objs.size fp s H
      have hct':=hct G2.objs.size fp s H
      have hte':=hte G2.objs.size fp s H
      rw [hXb] at htg' hct' hte'
      have eP:Xb.prog=X.prog:=by subst hXb;rfl
      have ew:Xb.w=X.w:=by subst hXb;rfl
      have eK:Xb.K=X.K:=by subst hXb;rfl
      have eA:Xb.A=X.A:=by subst hXb;rfl
      have ec:Xb.calm=true:=by subst hXb;exact hc
      have ee:Xb.env=compEnvC scope (kK X.env.cells scope.names []) G2.objs.size X.env:=by subst hXb;rfl
      have ex:Xb.xe=fun _ _=>False:=by subst hXb;rfl
      rw [<-eP,<-ew,<-eA,<-ee]
      obtain⟨ha,hl,turn'⟩:=turn i n ys IB H3 w3
      rcases turn' with ⟨stop,q⟩ | ⟨go,N,hN,step⟩
      . have hd:=T.done Xb eP ew eK ec i [] s3 IB H3 (fun _ _=>False) I3 (fpB fr3) st3 stop
        rw [<-eP,<-ew] at hd
        refine Lr hd (fun r s4 hr4=>?_) fun _ _ z=>z
        obtain⟨hr,I4⟩:=hr4
        subst hr
        exact fin I4 q
      . have hd:=T.item Xb eP ew eK ec i [] s3 IB H3 (fun _ _=>False) I3 (fpB fr3) st3 go
        rw [<-eP,<-ew] at hd
        refine Lr hd (fun r s4 hr4=>?_) fun _ _ z=>z
        obtain⟨u,hr,h4⟩:=hr4
        subst hr
        refine Lr h4 (fun _ s5 ⟨x,H5,I5,r5,y5,st5,fr5⟩=>?_) fun _ _ z=>z
        have I5':=I5.pinned (fpB fr5) (T.obj _ _ st5)
        have j0:∀{σ7:St} {H7:Hp} {s7:Shared},Inv Xb ([]++mR fp s5.heap) σ7 H7 s7->tn (i+1) s7.heap/\∀b∈fp,H7 b=none:=fun {σ7 H7 s7} I7=>by
          refine⟨T.keep _ _ _ st5 fun b hb o e=>(I7.pin (b,o) (Jl _ (Jl _ (ji hb e)))).1,fun b hb=>?_⟩
          obtain⟨o,e,d⟩:=T.obj _ _ st5 b hb
          exact (I7.pin (b,o) (Jl _ (Jl _ (ji hb e)))).2.1
        refine Lr (htg' _ s5 IB H5 x u _ I5' r5 (step x H5 y5)) (fun _ s6 ⟨τ6,H6,I6,q6⟩=>?_) (fun _ _ z=>by rw [ex] at z;exact z)
        refine Lr (hct' _ s6 τ6 H6 _ I6 q6) (fun ok s7 ⟨H7,I7,q7⟩=>?_) (fun _ _ z=>by rw [ex] at z;exact z)
        cases ok with
        | false =>
          have q7':N ys τ6 H7:=by rw [if_neg (by simp)] at q7;exact q7
          rw [if_neg (by simp)]
          obtain⟨m',hm,w7⟩:=hN _ _ _ q7'
          exact⟨m',hm,i+1,ys,τ6,H7,I7.jD,(j0 I7).1,(j0 I7).2,w7⟩
        | true =>
          rw [if_pos rfl] at q7 ⊢
          refine Lr (hte' _ s7 τ6 H7 _ I7 q7) (fun v s8 ⟨y,H8,I8,r8,ha8,n8⟩=>?_) (fun _ _ z=>by rw [ex] at z;exact z)
          refine Lr (eI (X:=Xb) _ s8 τ6 H8 (.ref s.heap.objs.size) [y] (.ref s.heap.objs.size) [v] (fun _ H9=>H9=upd H8 s.heap.objs.size (.lst (ys++[y]))) I8 rfl (.cons r8 .nil) ⟨_,ys,y,rfl,rfl,ha8,hl,rfl⟩) (fun _ s9 ⟨_,H9,I9,_,e9⟩=>?_) (fun _ _ z=>by rw [ex] at z;exact z)
          subst e9
          obtain⟨m',hm,w8⟩:=hN _ _ _ n8
          exact⟨m',hm,i+1,_,τ6,_,I9.jD,(j0 I9).1,(j0 I9).2,w8⟩
    . rw [ao (IL (hlt b hb))]
      exact (hfp b hb).1
  exact codeAny_compStart_list (loop _) (T.self _ 0 _ _ _ (T.keep _ _ _ st fun b hb o e=>old b o e) (loop _))
theorem Inv.zW {pins:List (Addr×Obj)}{IA : St}{H H':Hp}{s s':Shared}{C:Addr}{h':Heap}(I:Inv X pins IA H s){σ':St}(I':Inv X pins σ' H' s')(hC:H' C=none)(hle:s.heap.objs.size<=C)(hsb:Jk C s'.heap h') :
  Inv X pins σ' H' { s' with heap:=h' }:=by
 obtain⟨h1,h2,h3,h4,h5,h6⟩:=I.lr (H':=H') hle hC
 exact I'.turned (t':=s'.toks) (fun b o hb e=>hsb.extBut b o hb e) hC h2 h4 h5 h6
theorem eO {tg elt iter:Expr}{ifs:List Expr}{scope:Scope}{wi:TI}{g:TG}{ct:TT}{te:TE}(ts fr:List Str)(js:List Nat)
  (hc:X.calm=true) (hi:PI X tg iter wi) (hkind:scope.kind=.function) (hcell:∀y∈scope.names,y.2≠.cell) (hnames:∀y∈scope.names,y.2=.local->scope.names.lookup y.1=some .local)
  (hfree0:∀y∈scope.names,y.2=.free->y.1∈fr) (hfr:iC X scope fr js)
  (htg:∀C fp s₁ H₁,PG (ia X scope C (ts++fr) fp s₁ H₁) tg g) (hct:∀C fp s₁ H₁,zV (ia X scope C (ts++fr) fp s₁ H₁) ifs ct) (hte:∀C fp s₁ H₁,PE (ia X scope C (ts++fr) fp s₁ H₁) elt te)
  (hs:∀x,foldedSetIterable iter X.env x=pure x:=by intro _;rfl):PE X (.ListComp elt [⟨tg,iter,ifs,0⟩] scope pos) (GY ts.length js wi g ct te):=by
 have hfree:∀y∈scope.names,y.2=.free->X.env.kindOf y.1=some .cell\/X.env.kindOf y.1=some .free:=fun y hy e=>hfr.mem (hfree0 y hy e)
 intro pins s IA H Q I h
 rw [eval_ListComp]
 refine L7 (use:=none) rfl hs (qE fun y hy e=>I.ok.has y.1 (hfree y hy e)) hkind hnames (aX (hi pins s IA H _ I h) fun xv s1 h1=>aX h1 fun itv s2 h2=>?_)
 obtain⟨it,fp,tn,J,H2,e,I2,T,st2,f2,hW⟩:=h2
 subst e
 refine xy (RR:=fun acc C=>compPost (model X.prog X.w) X.A X.xe none (EP X pins IA Q) acc C) hc hkind hcell hfree hfr htg hct hte I2 T st2 f2 hW ?_
 intro acc C H' s' m I' hn hC hle q
 exact⟨m,hn,fun h' hsb=>⟨.ref acc,H',I2.zW I' hC hle hsb,rfl,q⟩⟩
theorem gJ {tg elt iter:Expr}{ifs:List Expr}{scope:Scope}{wi:TI}{g:TG}{ct:TT}{te:TE}{i:Nat}{y:Str}{py spos:Pos}(ts fr:List Str)(js:List Nat)
  (hsw:swapsWith (.ListComp elt [⟨tg,iter,ifs,0⟩] scope pos) (some (.Name y py)) spos.line X.env=pure true) (hN:X.N.Nodup) (hi0:X.N[i]?=some y) (hx:X.env.scope.names.lookup y=some .local)
  (hc:X.calm=true) (hi:PI X tg iter wi) (hkind:scope.kind=.function) (hcell:∀y∈scope.names,y.2≠.cell) (hnames:∀y∈scope.names,y.2=.local->scope.names.lookup y.1=some .local)
  (hfree0:∀y∈scope.names,y.2=.free->y.1∈fr) (hfr:iC X scope fr js)
  (htg:∀C fp s₁ H₁,PG (ia X scope C (ts++fr) fp s₁ H₁) tg g) (hct:∀C fp s₁ H₁,zV (ia X scope C (ts++fr) fp s₁ H₁) ifs ct) (hte:∀C fp s₁ H₁,PE (ia X scope C (ts++fr) fp s₁ H₁) elt te)
  (hs:∀x,foldedSetIterable iter X.env x=pure x:=by intro _;rfl):PS X (.Assign [.Name y py] (.ListComp elt [⟨tg,iter,ifs,0⟩] scope pos) spos) (yr (GY ts.length js wi g ct te) (oo i)):=by
 have hfree:∀y∈scope.names,y.2=.free->X.env.kindOf y.1=some .cell\/X.env.kindOf y.1=some .free:=fun y hy e=>hfr.mem (hfree0 y hy e)
 intro pins s IA H D I h
 rw [exec_Assign_Name_used _ _ _ _ hsw]
 refine Lo (LG (Lo ?_))
 show wpAny _ X.A (do let _ <-comprehension (.ListComp elt [⟨tg,iter,ifs,0⟩] scope pos) scope X.env _ (newList []) false (eval iter X.env) (some (assign (.Name y py) X.env))) _ _ s
 refine Lo (Lr (L7 (use:=some (assign (.Name y py) X.env)) (Q:=fun _ s'=>SP X pins D .next s') rfl hs (qE fun y hy e=>I.ok.has y.1 (hfree y hy e)) hkind hnames
  (aX (hi pins s IA H _ I h) fun xv s1 h1=>aX h1 fun itv s2 h2=>?_)) (fun _ s' hq=>Lq (Lq hq)) fun _ _ e=>e)
 obtain⟨it,fp,tn,J,H2,e,I2,T,st2,f2,hW⟩:=h2
 subst e
 refine xy (Q:=fun v H'=>D.nx (IA.set i (some v)) H') (RR:=fun acc C=>compPost (model X.prog X.w) X.A X.xe (some (assign (.Name y py) X.env)) (fun _ s'=>SP X pins D .next s') acc C) hc hkind hcell hfree hfr htg hct hte I2 T st2 f2 hW ?_
 intro acc C H' s' m I' hn hC hle q
 show wpAny _ X.A (assign (.Name y py) X.env (.ref acc)) _ _ _
 refine wpAny_assign_Name (tK I' hN hi0 (.inl hx) (v:=.ref acc) rfl (fun s'' I'' hch=>?_) (.inr hx))
 obtain⟨h1,h2,h3,h4,h5,h6⟩:=I2.lr (H':=H') hle hC
 obtain⟨a,hsb,ha⟩:=hch
 refine⟨m,hn.sameBut hsb ?_,fun h' hsb'=>⟨_,H',I2.zW I'' hC hle hsb',q⟩⟩
 rcases ha with ha | ha
 ·rw [ha];exact h2
 ·exact fun z=>h5 y a ha z.symm
end
theorem sy {K:IC}{a acc:Addr}{xs:List V}{n:Nat}{js:List Nat}{g:TG}{ct:TT}{te:TE}{IA : St}{H1:Hp}{Q:VK}(Pv:Nat->List V->St->Hp->Prop)(h0:Pv 0 [] (mZ n js IA) (upd H1 acc (.lst [])))
  (hl:∀i ys IB H,i<=xs.length->Pv i ys IB H->aO K H a xs/\H acc=some (.lst ys)/\ys.length<sizeLine)
  (hs:∀i x ys IB H,xs[i]?=some x->Pv i ys IB H->g x IB H fun τ1 H4=>ct τ1 H4 fun b H5=>if b=true then te τ1 H5 fun y H6=>H6 acc=some (.lst ys)/\Pv (i+1) (ys++[y]) τ1 (upd H6 acc (.lst (ys++[y]))) else Pv (i+1) ys τ1 H5)
  (hd:∀ys IB H,Pv xs.length ys IB H->Q (.ref acc) H) :
  vk (xg K a) n js g ct te acc IA H1 Q:=by
 refine⟨fun i m ys IB H=>m=xs.length-i/\i<=xs.length/\Pv i ys IB H,⟨xs.length,by simp,Jc _,h0⟩,?_⟩
 rintro i m ys IB H ⟨rfl,hi,p⟩
 obtain⟨q,q2,q3⟩:=hl i ys IB H hi p
 refine⟨q2,q3,?_⟩
 by_cases hlt:i<xs.length
 ·refine .inr ⟨⟨xs,xs[i],q,by simp [hlt]⟩,Pv (i+1),fun ys' τ' H' p'=>⟨xs.length-(i+1),by omega,rfl,hlt,p'⟩,fun x H' y=>?_⟩
  obtain⟨e,y⟩:=y
  subst e
  exact hs i x ys IB _ (y xs q) p
 ·have e:i=xs.length:=by omega
  subst e
  exact .inl ⟨⟨xs,q,IF _⟩,hd ys IB H p⟩
theorem kL {K:IC}{a acc:Addr}{xs:List V}{n:Nat}{js:List Nat}{g:TG}{ct:TT}{te:TE}{IA : St}{H1:Hp}{Q:VK}(Pv:Nat->List V->St->Hp->Prop)(h0:Pv 0 [] (mZ n js IA) (upd H1 acc (.lst [])))
  (hl:∀i ys IB H,i<=xs.length->Pv i ys IB H->aw K H a xs/\H acc=some (.lst ys)/\ys.length<sizeLine)
  (hs:∀i x ys IB H,xs[i]?=some x->Pv i ys IB H->g x IB H fun τ1 H4=>ct τ1 H4 fun b H5=>if b=true then te τ1 H5 fun y H6=>H6 acc=some (.lst ys)/\Pv (i+1) (ys++[y]) τ1 (upd H6 acc (.lst (ys++[y]))) else Pv (i+1) ys τ1 H5)
  (hd:∀ys IB H,Pv xs.length ys IB H->Q (.ref acc) H) :
  vk (xh K a) n js g ct te acc IA H1 Q:=by
 refine⟨fun i m ys IB H=>m=xs.length-i/\i<=xs.length/\Pv i ys IB H,⟨xs.length,by simp,Jc _,h0⟩,?_⟩
 rintro i m ys IB H ⟨rfl,hi,p⟩
 obtain⟨q,q2,q3⟩:=hl i ys IB H hi p
 refine⟨q2,q3,?_⟩
 by_cases hlt:i<xs.length
 ·refine .inr ⟨⟨xs,xs[i],q,by simp [hlt]⟩,Pv (i+1),fun ys' τ' H' p'=>⟨xs.length-(i+1),by omega,rfl,hlt,p'⟩,fun x H' y=>?_⟩
  obtain⟨e,y⟩:=y
  subst e
  exact hs i x ys IB _ (y xs q) p
 ·have e:i=xs.length:=by omega
  subst e
  exact .inl ⟨⟨xs,q,IF _⟩,hd ys IB H p⟩
theorem lC {lo:Int}{k:Nat}{acc:Addr}{n:Nat}{js:List Nat}{g:TG}{ct:TT}{te:TE}{IA : St}{H1:Hp}{Q:VK}(Pv:Nat->List V->St->Hp->Prop)(h0:Pv 0 [] (mZ n js IA) (upd H1 acc (.lst [])))
  (hl:∀i ys IB H,i<=k->Pv i ys IB H->H acc=some (.lst ys)/\ys.length<sizeLine)
  (hs:∀i ys IB H,i<k->Pv i ys IB H->g (.int (lo+i)) IB H fun τ1 H4=>ct τ1 H4 fun b H5=>if b=true then te τ1 H5 fun y H6=>H6 acc=some (.lst ys)/\Pv (i+1) (ys++[y]) τ1 (upd H6 acc (.lst (ys++[y]))) else Pv (i+1) ys τ1 H5)
  (hd:∀ys IB H,Pv k ys IB H->Q (.ref acc) H) :
  vk (vf lo k) n js g ct te acc IA H1 Q:=by
 refine⟨fun i m ys IB H=>m=k-i/\i<=k/\Pv i ys IB H,⟨k,by simp,Jc _,h0⟩,?_⟩
 rintro i m ys IB H ⟨rfl,hi,p⟩
 obtain⟨q2,q3⟩:=hl i ys IB H hi p
 refine⟨q2,q3,?_⟩
 by_cases hlt:i<k
 ·refine .inr ⟨hlt,Pv (i+1),fun ys' τ' H' p'=>⟨k-(i+1),by omega,rfl,hlt,p'⟩,fun x H' y=>?_⟩
  obtain⟨e,y⟩:=y
  subst e y
  exact hs i ys IB _ hlt p
 ·have e:i=k:=by omega
  subst e
  exact .inl ⟨IF _,hd ys IB H p⟩
section
variable {X:Cx}
end
def HI (t:TS):TS:=fun D IA H=>∃M:St->Hp->Prop,t { D with nx:=M } IA H/\∀σ' H',M σ' H'->D.nx σ' H'
theorem jL {X:Cx}{st:Stmt}{t:TS}(h:PS X st t):PS X st (HI t):=by
 intro pins s IA H D I q
 obtain⟨M,q,hM⟩:=q
 refine aX (h pins s IA H _ I q) fun f s' hs=>?_
 cases f with
 | next =>
  obtain⟨σ',H',I',m⟩:=hs
  exact⟨σ',H',I',hM _ _ m⟩
 | brk=>exact hs
 | cont=>exact hs
 | ret u=>exact hs
theorem ib {m:Int}(h0:0<m)(h1:m<1073741824):m.natAbs.log2<9000:=by
 have h:m.natAbs.log2<30:=(Nat.log2_lt (by omega)).mpr (by omega)
 omega
theorem oz {X:Cx}{K:IC}{es:List Expr}{k:Nat}{t:ve}{n:Nat}{pos:Pos}(hK:X.K=K)(h:PG X (.Tuple es k pos) (Bi X.K n t)):PG X (.Tuple es k pos) (Bi K n t):=by
 subst hK
 exact h
section
variable {prog:Program}{w:World}{A:Around}{E:Value->Shared->Prop}{s:Shared}
theorem qF {j t:Addr}{n:Nat}{its:Array Value}{x:Value}{Q:Value->Shared->Prop}(hj:s.heap.IsTupleIter j t n)(ht:s.heap.IsTuple t its)(hx:its[n]?=some x)
  (hQ:∀g,g.IsTupleIter j t (n+1)->Jk j s.heap g->Q x { s with heap:=g }):wpAny (model prog w) A (Builtin.SmallTypes.nextOf (.ref j)) Q E s:=by
 obtain⟨ob,eo,ec,ed⟩:=id hj
 obtain⟨ot,et,_,k,ek⟩:=ht
 unfold Builtin.SmallTypes.nextOf
 refine Lo (wpAny_callSpecial?_slot (name:=Str.ofString "__next__") hj.typeIs F.slot_tuple_iterator_next (Lu F.slot_tuple_iterator_next hj.typeIs F.entry_tuple_iterator_next ?_ (F.args_tuple_iterator_next_1 _)))
 show wpAny _ _ (field (.ref j) 0 >>= _) _ _ s
 refine Lo (Lw eo ed (x:=.ref t) rfl ?_)
 show wpAny _ _ (if (Value.ref t == Value.none)=true then _ else _) _ _ s
 refine (if_neg (c:=(Value.ref t == Value.none)=true) Je) ▸ ?_
 show wpAny _ _ (field (.ref j) 1 >>= _) _ _ s
 refine Lo (Lw eo ed (x:=.int n 0) rfl (Lo (Lx et ek ?_)))
 simp only [hx,JS]
 refine Lo (LC eo ed (by simp) (Lq ⟨x,rfl,Lq (hQ _ ⟨_,JJ _ eo (Obj.isFreed_of_fields (Obj.data_mapFields ed _)),(Obj.cls_mapFields ..).trans ec,?_⟩ (Jk.update ..))⟩))
 rw [Obj.data_mapFields ed];simp [rawInt]
theorem sA {j t:Addr}{n:Nat}{its:Array Value}{Q:Value->Shared->Prop}(ha:A.handled=none)(hj:s.heap.IsTupleIter j t n)(ht:s.heap.IsTuple t its)(hx:its[n]?=none)
    (hE:∀g e,Heap.ExtBut j s.heap g->(∃o,g.get? e=some o/\o.cls=.type "StopIteration")->E (.ref e) { s with heap:=g }):wpAny (model prog w) A (Builtin.SmallTypes.nextOf (.ref j)) Q E s:=by
  obtain⟨ob,eo,ec,ed⟩:=id hj
  obtain⟨ot,et,_,k,ek⟩:=ht
  unfold Builtin.SmallTypes.nextOf
  refine Lo (wpAny_callSpecial?_slot (name:=Str.ofString "__next__") hj.typeIs F.slot_tuple_iterator_next (Lu F.slot_tuple_iterator_next hj.typeIs F.entry_tuple_iterator_next ?_ (F.args_tuple_iterator_next_1 _)))
  show wpAny _ _ (field (.ref j) 0 >>= _) _ _ s
  refine Lo (Lw eo ed (x:=.ref t) rfl ?_)
  show wpAny _ _ (if (Value.ref t == Value.none)=true then _ else _) _ _ s
  refine (if_neg (c:=(Value.ref t == Value.none)=true) Je) ▸ ?_
  show wpAny _ _ (field (.ref j) 1 >>= _) _ _ s
  refine Lo (Lw eo ed (x:=.int n 0) rfl (Lo (Lx et ek ?_)))
  simp only [hx,JS]
  refine Lo (LA (Lo (LC eo ed (by simp) ?_)))
  show wpAny _ _ (newExc (.type "StopIteration") [] >>= fun _=>_) _ _ _
  refine Lo ?_
  simp only [newTuple,newExc]
  refine Lo (Lv (Lo (m:=firstArgMember _ _) (wpAny_of_eq (a:=Value.none) (by first | rfl | (simp only [firstArgMember];rfl)) (Lv ?_ (by size_fits)))) (by size_fits))
  simp only [raiseNew]
  refine Lo (wpAny_handled (by
    first | rw [show A.in1.handled=none from ha] | rw [ha]
    exact Lo (Lq (wpAny_throw (hE _ _ (((Jk.update ..).extBut.push _).push _) ⟨_,IK _ rfl,rfl⟩)))))
structure xA (z p q j k a b:Addr):Prop where
 pz:p≠z
 qz:q≠z
 jz:j≠z
 kz:k≠z
 pq:p≠q
 pj:p≠j
 pk:p≠k
 qj:q≠j
 qk:q≠k
 jk:j≠k
 az:a≠z
 aq:a≠q
 aj:a≠j
 ak:a≠k
 bz:b≠z
 bq:b≠q
 bj:b≠j
 bk:b≠k
theorem gW {h g:Heap}{a:Addr}{xs:Array Value}(x:h.IsTuple a xs)(k:∀o,h.get? a=some o->g.get? a=some o):g.IsTuple a xs:=by
 obtain⟨o,e,r⟩:=x
 exact⟨o,k o e,r⟩
theorem DO {z p q j k a b:Addr}{m n:Nat}{xs ys:Array Value}{x y u v:Value}{Q:Value->Shared->Prop}(D:xA z p q j k a b)
  (gz:IsZip s.heap z p q .none) (gp:IsPair s.heap p (.ref j) (.ref k)) (gq:IsPair s.heap q u v)
  (gj:s.heap.IsTupleIter j a m) (gk:s.heap.IsTupleIter k b n) (ga:s.heap.IsTuple a xs) (gb:s.heap.IsTuple b ys) (hx:xs[m]?=some x) (hy:ys[n]?=some y)
  (hQ:∀g,IsZip g z p q (rawInt s.heap.objs.size)->IsPair g q x y->g.IsTupleIter j a (m+1)->g.IsTupleIter k b (n+1)->IsPair g s.heap.objs.size x y->g.objs.size=s.heap.objs.size+1 ->
   (∀c o,c≠z->c≠q->c≠j->c≠k->s.heap.get? c=some o->g.get? c=some o)->Q (.ref s.heap.objs.size) { s with heap:=g }) :
  wpAny (model prog w) A (Builtin.«zip.__next__» ⟨[.ref z],[]⟩) (fun fin s'=>∃v,fin=.done (.ret v)/\Q v s') E s:=by
 show wpAny _ _ (field (.ref z) 2 >>= fun _=>_) _ _ _
 refine Lo (Lw gz rfl (x:=.bool false) rfl ?_)
 show wpAny _ _ (field (.ref z) 3 >>= fun _=>_) _ _ _
 refine Lo (Lw gz rfl (x:=.ref p) rfl (Lo (Lx gp rfl ?_)))
 show wpAny _ _ (Builtin.SmallTypes.ownedTupleIsFree (.ref z) >>= fun _=>_) _ _ _
 refine Lo ?_
 unfold Builtin.SmallTypes.ownedTupleIsFree
 refine Lo (Lw gz rfl (x:=.none) rfl (Lq ?_))
 simp only [if_true]
 refine Lo (LA (Lo (Lw gz rfl (x:=.ref q) rfl (Lo (LL gz (by simp) fun g1 gz1 t1=>?_)))))
 replace gz1:IsZip g1 z p q .ellipsis:=gz1
 refine Lo ?_
 simp only [J1,KP,List.zipIdx_cons,List.zipIdx_nil]
 refine Lo (Lo (LU ?_))
 show wpAny _ _ (Builtin.SmallTypes.nextOf (.ref j) >>= fun _=>_) _ _ _
 refine Lo (qF (gj.extBut t1.extBut D.jz) (gW ga fun o e=>t1.extBut _ _ D.az e) hx fun g2 gj2 t2=>Lq ?_)
 have gq2:IsPair g2 q u v:=t2.extBut _ _ D.qj (t1.extBut _ _ D.qz gq)
 refine Lo (Lx gq2 rfl (Lo (L4 gq2 fun g3 gq3 t3=>?_)))
 replace gq3:IsPair g3 q x v:=gq3
 refine Lo (wpAny_letGo (Lq (Lo (Lo (LU ?_)))))
 show wpAny _ _ (Builtin.SmallTypes.nextOf (.ref k) >>= fun _=>_) _ _ _
 refine Lo (qF (((gk.extBut t1.extBut D.kz).extBut t2.extBut D.jk.symm).extBut t3.extBut D.qk.symm) (gW gb fun o e=>t3.extBut _ _ D.bq (t2.extBut _ _ D.bj (t1.extBut _ _ D.bz e))) hy fun g4 gk4 t4=>Lq ?_)
 have gq4:IsPair g4 q x v:=t4.extBut _ _ D.qk gq3
 refine Lo (Lx gq4 rfl (Lo (L4 gq4 fun g5 gq5 t5=>?_)))
 replace gq5:IsPair g5 q x y:=gq5
 refine Lo (wpAny_letGo (Lq (Lq (Lo (Lx gq5 rfl (Lo (wpAny_newTuple ?_)))))))
 have ez:g5.objs.size=s.heap.objs.size:=by rw [t5.1,t4.1,t3.1,t2.1,t1.1]
 have gz5:IsZip g5 z p q .ellipsis:=t5.extBut _ _ D.qz.symm (t4.extBut _ _ D.kz.symm (t3.extBut _ _ D.qz.symm (t2.extBut _ _ D.jz.symm gz1)))
 have k5:∀c o,c≠z->c≠q->c≠j->c≠k->s.heap.get? c=some o->g5.get? c=some o:=fun c o c1 c2 c3 c4 e=>t5.extBut _ _ c2 (t4.extBut _ _ c4 (t3.extBut _ _ c2 (t2.extBut _ _ c3 (t1.extBut _ _ c1 e))))
 have gj5:g5.IsTupleIter j a (m+1):=((gj2.extBut t3.extBut D.qj.symm).extBut t4.extBut D.jk).extBut t5.extBut D.qj.symm
 have gk5:g5.IsTupleIter k b (n+1):=gk4.extBut t5.extBut D.qk.symm
 have lz:z<g5.objs.size:=IG gz5
 show wpAny _ _ (Builtin.SmallTypes.ownedTupleHandOut (.ref z) (.ref g5.objs.size) >>= fun _=>_) _ _ _
 refine Lo ?_
 unfold Builtin.SmallTypes.ownedTupleHandOut
 have gz6:IsZip (g5.push { cls:=.type "tuple",data:=.seq #[x,y] }) z p q .ellipsis:=II _ gz5
 refine Lo (LL gz6 (by simp) fun g7 gz7 t7=>?_)
 replace gz7:IsZip g7 z p q (rawInt g5.objs.size):=gz7
 refine LL gz7 (by simp) fun g8 gz8 t8=>?_
 replace gz8:IsZip g8 z p q (rawInt g5.objs.size):=gz8
 have up:∀c o,c≠z->g5.get? c=some o->g8.get? c=some o:=fun c o c1 e=>t8.extBut _ _ c1 (t7.extBut _ _ c1 (II _ e))
 have gT:IsPair g8 g5.objs.size x y:=t8.extBut _ _ (JB lz) (t7.extBut _ _ (JB lz) (IK _ rfl))
 have e8:g8.objs.size=g5.objs.size+1:=by rw [t8.1,t7.1,Jh]
 rw [ez] at gz8 gT e8
 refine Lq ⟨_,rfl,?_⟩
 show Q (.ref g5.objs.size) _
 rw [ez]
 refine hQ g8 gz8 (up _ _ D.qz gq5) ?_ ?_ gT e8 fun c o c1 c2 c3 c4 e=>up c o c1 (k5 c o c1 c2 c3 c4 e)
 ·obtain⟨o,e,r⟩:=gj5
  exact⟨o,up _ _ D.jz e,r⟩
 ·obtain⟨o,e,r⟩:=gk5
  exact⟨o,up _ _ D.kz e,r⟩
theorem Fq {z p q j k a b:Addr}{m n:Nat}{xs ys:Array Value}{u v:Value}{Q:Fin->Shared->Prop}(ha:A.handled=none)(D:xA z p q j k a b)
  (gz:IsZip s.heap z p q .none) (gp:IsPair s.heap p (.ref j) (.ref k)) (gq:IsPair s.heap q u v)
  (gj:s.heap.IsTupleIter j a m) (gk:s.heap.IsTupleIter k b n) (ga:s.heap.IsTuple a xs) (gb:s.heap.IsTuple b ys) (hend:xs[m]?=none\/ys[n]?=none)
  (hE:∀g e,(∀c o,c≠z->c≠q->c≠j->c≠k->s.heap.get? c=some o->g.get? c=some o)->(∃o,g.get? e=some o/\o.cls=.type "StopIteration")->E (.ref e) { s with heap:=g }) :
  wpAny (model prog w) A (Builtin.«zip.__next__» ⟨[.ref z],[]⟩) Q E s:=by
 show wpAny _ _ (field (.ref z) 2 >>= fun _=>_) _ _ _
 refine Lo (Lw gz rfl (x:=.bool false) rfl ?_)
 show wpAny _ _ (field (.ref z) 3 >>= fun _=>_) _ _ _
 refine Lo (Lw gz rfl (x:=.ref p) rfl (Lo (Lx gp rfl ?_)))
 show wpAny _ _ (Builtin.SmallTypes.ownedTupleIsFree (.ref z) >>= fun _=>_) _ _ _
 refine Lo ?_
 unfold Builtin.SmallTypes.ownedTupleIsFree
 refine Lo (Lw gz rfl (x:=.none) rfl (Lq ?_))
 simp only [if_true]
 refine Lo (LA (Lo (Lw gz rfl (x:=.ref q) rfl (Lo (LL gz (by simp) fun g1 gz1 t1=>?_)))))
 replace gz1:IsZip g1 z p q .ellipsis:=gz1
 refine Lo ?_
 simp only [J1,KP,List.zipIdx_cons,List.zipIdx_nil]
 refine Lo (Lo (LU ?_))
 show wpAny _ _ (Builtin.SmallTypes.nextOf (.ref j) >>= fun _=>_) _ _ _
 cases hx:xs[m]? with
 | none =>
  refine Lo (sA ha (gj.extBut t1.extBut D.jz) (gW ga fun o e=>t1.extBut _ _ D.az e) hx fun g2 e t2 he=>?_)
  obtain⟨oe,eoe,ce⟩:=he
  have gz2:IsZip g2 z p q .ellipsis:=t2 _ _ D.jz.symm gz1
  have ne:e≠z:=fun x=>by subst x;rw [gz2] at eoe;cases eoe;simp at ce
  exact LL gz2 (by simp) fun g3 _ t3=>hE g3 e (fun c o c1 _ c3 _ x=>t3.extBut _ _ c1 (t2 _ _ c3 (t1.extBut _ _ c1 x))) ⟨oe,t3.extBut _ _ ne eoe,ce⟩
 | some x =>
  have hy:ys[n]?=none:=hend.elim (fun h=>by rw [hx] at h;cases h) id
  refine Lo (qF (gj.extBut t1.extBut D.jz) (gW ga fun o e=>t1.extBut _ _ D.az e) hx fun g2 gj2 t2=>Lq ?_)
  have gq2:IsPair g2 q u v:=t2.extBut _ _ D.qj (t1.extBut _ _ D.qz gq)
  refine Lo (Lx gq2 rfl (Lo (L4 gq2 fun g3 gq3 t3=>?_)))
  refine Lo (wpAny_letGo (Lq (Lo (Lo (LU ?_)))))
  show wpAny _ _ (Builtin.SmallTypes.nextOf (.ref k) >>= fun _=>_) _ _ _
  refine Lo (sA ha (((gk.extBut t1.extBut D.kz).extBut t2.extBut D.jk.symm).extBut t3.extBut D.qk.symm) (gW gb fun o e=>t3.extBut _ _ D.bq (t2.extBut _ _ D.bj (t1.extBut _ _ D.bz e))) hy fun g4 e t4 he=>?_)
  obtain⟨oe,eoe,ce⟩:=he
  have gz4:IsZip g4 z p q .ellipsis:=t4 _ _ D.kz.symm (t3.extBut _ _ D.qz.symm (t2.extBut _ _ D.jz.symm gz1))
  have ne:e≠z:=fun x=>by subst x;rw [gz4] at eoe;cases eoe;simp at ce
  exact LL gz4 (by simp) fun g5 _ t5=>hE g5 e (fun c o c1 c2 c3 c4 x=>t5.extBut _ _ c1 (t4 _ _ c4 (t3.extBut _ _ c2 (t2.extBut _ _ c3 (t1.extBut _ _ c1 x))))) ⟨oe,t5.extBut _ _ ne eoe,ce⟩
theorem DP {z p q j k a b:Addr}{m n:Nat}{xs ys:Array Value}{x y u v:Value}{Q:Option Value->Shared->Prop}(D:xA z p q j k a b)
  (gz:IsZip s.heap z p q .none) (gp:IsPair s.heap p (.ref j) (.ref k)) (gq:IsPair s.heap q u v)
  (gj:s.heap.IsTupleIter j a m) (gk:s.heap.IsTupleIter k b n) (ga:s.heap.IsTuple a xs) (gb:s.heap.IsTuple b ys) (hx:xs[m]?=some x) (hy:ys[n]?=some y)
  (hQ:∀g,IsZip g z p q (rawInt s.heap.objs.size)->IsPair g q x y->g.IsTupleIter j a (m+1)->g.IsTupleIter k b (n+1)->IsPair g s.heap.objs.size x y->g.objs.size=s.heap.objs.size+1 ->
   (∀c o,c≠z->c≠q->c≠j->c≠k->s.heap.get? c=some o->g.get? c=some o)->Q (some (.ref s.heap.objs.size)) { s with heap:=g }) :
  wpAny (model prog w) A (pyNext (.ref z)) Q E s:=by
 have ty:s.TypeIs (.ref z) "zip" := ⟨_,gz,rfl⟩
 unfold pyNext
 exact Lo (LD (wpAny_callSpecial?_slot (name:=Str.ofString "__next__") ty F.slot_zip_next (Lu F.slot_zip_next ty F.entry_zip_next
   (DO D gz gp gq gj gk ga gb hx hy fun g a1 a2 a3 a4 a5 a6 a7=>Lq (hQ g a1 a2 a3 a4 a5 a6 a7)) (F.args_zip_next_1 _))))
theorem DQ {z p q j k a b:Addr}{m n:Nat}{xs ys:Array Value}{u v:Value}{Q:Option Value->Shared->Prop}(ha:A.handled=none)(D:xA z p q j k a b)
  (gz:IsZip s.heap z p q .none) (gp:IsPair s.heap p (.ref j) (.ref k)) (gq:IsPair s.heap q u v)
  (gj:s.heap.IsTupleIter j a m) (gk:s.heap.IsTupleIter k b n) (ga:s.heap.IsTuple a xs) (gb:s.heap.IsTuple b ys) (hend:xs[m]?=none\/ys[n]?=none)
  (hQ:∀g,(∀c o,c≠z->c≠q->c≠j->c≠k->s.heap.get? c=some o->g.get? c=some o)->Q none { s with heap:=g }):wpAny (model prog w) A (pyNext (.ref z)) Q E s:=by
 have ty:s.TypeIs (.ref z) "zip" := ⟨_,gz,rfl⟩
 unfold pyNext
 refine Lo (LD (wpAny_callSpecial?_slot (name:=Str.ofString "__next__") ty F.slot_zip_next (Lu F.slot_zip_next ty F.entry_zip_next
   (Fq ha D gz gp gq gj gk ga gb hend fun g e hk he=>?_) (F.args_zip_next_1 _))))
 obtain⟨o,eo,ec⟩:=he
 exact Lo (LO (T := "StopIteration") (b:=true) ⟨o,eo,ec⟩ isSubtype_stop (Lq (hQ _ hk)))
abbrev zX (h:Heap)(a:Addr):Heap:=h.push { cls:=.type "tuple_iterator",data:=.fields #[.ref a,.int 0 0] }
abbrev C5 (h:Heap)(a b:Addr):Heap:=(zX h a).push { cls:=.type "tuple_iterator",data:=.fields #[.ref b,.int 0 0] }
abbrev C6 (h:Heap)(a b:Addr):Heap:=(C5 h a b).push { cls:=.type "tuple",data:=.seq #[.ref h.objs.size,.ref (zX h a).objs.size] }
abbrev C7 (h:Heap)(a b:Addr):Heap:=(C6 h a b).push { cls:=.type "tuple",data:=.seq #[.none,.none] }
abbrev xB (h:Heap)(a b:Addr):Heap:=(C7 h a b).push { cls:=.type "zip",data:=.fields #[.none,.bool false,.bool false,.ref (C5 h a b).objs.size,.ref (C6 h a b).objs.size] }
theorem Fs (a b:Addr) (xs ys:Array Value):Meets (Builtin.«zip.__new__» ⟨[.type "zip",.ref a,.ref b],[]⟩) (fun _ R s=>s.heap.IsTuple a xs/\s.heap.IsTuple b ys /\
   R (.ok (.ret (.ref (C7 s.heap a b).objs.size))) { s with heap:=xB s.heap a b }) :=
 .of_wp fun P w' A' R' s' hh=>by
  obtain⟨hp,g,d,tk,os⟩:=s'
  obtain⟨ga,gb,hh⟩:=hh
  have hsub:=sub_zip
  have la:Heap.IsTuple (Shared.heap ⟨hp,g,d,tk,os⟩) a xs:=ga
  have lb:Heap.IsTuple (Shared.heap ⟨zX hp a,g,d,tk,os⟩) b ys:=gW gb fun o e=>II _ e
  wp_walk using LJ la,LJ lb
  exact⟨_,rfl,hh⟩
theorem DR {a b:Addr}{xs ys:Array Value}{Q:Value->Shared->Prop}(ga:s.heap.IsTuple a xs)(gb:s.heap.IsTuple b ys)
  (h:∀g,IsZip g (s.heap.objs.size+4) (s.heap.objs.size+2) (s.heap.objs.size+3) .none->IsPair g (s.heap.objs.size+2) (.ref s.heap.objs.size) (.ref (s.heap.objs.size+1)) ->
   IsPair g (s.heap.objs.size+3) .none .none->g.IsTupleIter s.heap.objs.size a 0->g.IsTupleIter (s.heap.objs.size+1) b 0 ->
   (∀c o,s.heap.get? c=some o->g.get? c=some o)->Q (.ref (s.heap.objs.size+4)) { s with heap:=g }) :
  wpAny (model prog w) A (call (.type "zip") [.ref a,.ref b]) Q E s:=by
 refine callType_new F.called_zip (by decide) (F.typeCall_zip_2 _ _) (F.newCall_zip_2 _ _) (fun obj=>F.args_object_init_3 obj _ _) F.entry_zip_new (Fs a b xs ys) ⟨ga,gb,?_⟩
 have z1:(zX s.heap a).objs.size=s.heap.objs.size+1:=Jh ..
 have z2:(C5 s.heap a b).objs.size=s.heap.objs.size+2:=by rw [Jh,z1]
 have z3:(C6 s.heap a b).objs.size=s.heap.objs.size+3:=by rw [Jh,z2]
 have z4:(C7 s.heap a b).objs.size=s.heap.objs.size+4:=by rw [Jh,z3]
 have up:∀{h:Heap} {c:Addr} {o o':Obj},h.get? c=some o->(h.push o').get? c=some o:=fun e=>II _ e
 have q5:(xB s.heap a b).get? (C7 s.heap a b).objs.size=some _:=IK _ rfl
 have q4:(xB s.heap a b).get? (C6 s.heap a b).objs.size=some _:=up (IK _ rfl)
 have q3:(xB s.heap a b).get? (C5 s.heap a b).objs.size=some _:=up (up (IK _ rfl))
 have q2:(xB s.heap a b).get? (zX s.heap a).objs.size=some _:=up (up (up (IK _ rfl)))
 have q1:(xB s.heap a b).get? s.heap.objs.size=some _:=up (up (up (up (IK _ rfl))))
 show _/\_
 rw [z2,z3,z4] at q5
 rw [z1,z2] at q3
 rw [z3] at q4
 rw [z1] at q2
 rw [z4]
 exact⟨⟨_,q5,rfl⟩,h _ q5 q3 q4 ⟨_,q1,rfl,rfl⟩ ⟨_,q2,rfl,rfl⟩ fun c o x=>up (up (up (up (up x))))⟩
end
section
variable {X:Cx}{pins:List (Addr×Obj)}{IA : List (Option V)}{H H':Hp}{s:Shared}{h':Heap}
theorem Inv.iD {t':Nat}{fp:List Addr}(I:Inv X pins IA H s)(k:∀b o,b∉fp->s.heap.get? b=some o->h'.get? b=some o)(f:∀b∈fp,hX X pins H b):Inv X pins IA H { s with heap:=h',toks:=t' }:=by
 have nit:∀b u,H b=some u->b∉fp:=fun b u e z=>by rw [(f b z).1] at e;cases e
 refine I.step (g':=s.gens) (d':=s.drawn) (ch:=fp) (fun b hb=>?_) (fun b o _ _ hc e _=>k b o hc e) (fun b o _ _ hc e _=>⟨o.slots,k b o hc e⟩) (fun _ _ _ _ n=>n)
  (fun b o hc e=>⟨o,k b o hc e⟩) (fun _ _ e=>e) (fun _ _ _ e=>e) (fun b ps e=>⟨#[],by rw [e];simp⟩) (fun m hm=>?_) (fun b u e=>?_) I.bare
 ·obtain⟨f0,f1,f2,f3,f4,f5⟩:=f b hb
  exact⟨f3,f1,f4,f5⟩
 ·obtain⟨o,es,ep,ho,r⟩:=hm
  exact⟨o,es,ep,k _ o (fun z=>(f _ z).2.1 rfl) ho,r⟩
 ·refine (I.aN b u e).lh (fun c v hc q=>k c v ?_ q) (fun _ q=>q) fun _ _ q=>q
  rcases hc with z | z
  ·rw [z];exact nit b u e
  ·exact nit c _ z
def C8 (K:IC)(a b:Addr):It :=
 ⟨fun i H=>∃xs ys x y,aw K H a xs/\aw K H b ys/\xs[i]?=some x/\ys[i]?=some y,
  fun i H v H'=>∃t x y,v=.ref t/\H t=none/\H' = upd H t (.tup [x,y])/\∀xs ys,aw K H a xs->aw K H b ys->xs[i]?=some x/\ys[i]?=some y,
  fun i H=>∃xs ys,aw K H a xs/\aw K H b ys/\(xs.length<=i\/ys.length<=i)⟩
theorem BI {P:Program}{w:World}{K:IC}{elts:List Expr}{kk:Nat}{pos:Pos}(a b z p q j k:Addr)(D:xA z p q j k a b) :
    Turn P w K (.Tuple elts kk pos) (C8 K a b) [z,p,q,j,k] z (fun i h=>IsZip h z p q .none/\IsPair h p (.ref j) (.ref k)/\(∃u v,IsPair h q u v)/\h.IsTupleIter j a i/\h.IsTupleIter k b i) where
  mem:=by simp
  obj:=fun i h st c hc=>by
    obtain⟨gz,gp,⟨u,v,gq⟩,⟨oj,ej,cj,dj⟩,⟨ok,ek,ck,dk⟩⟩:=st
    simp only [IE,Jq,or_false] at hc
    rcases hc with rfl | rfl | rfl | rfl | rfl
    . exact⟨_,gz,fun v e=>by cases e⟩
    . exact⟨_,gp,fun v e=>by cases e⟩
    . exact⟨_,gq,fun v e=>by cases e⟩
    . exact⟨oj,ej,fun v e=>by rw [dj] at e;cases e⟩
    . exact⟨ok,ek,fun v e=>by rw [dk] at e;cases e⟩
  keep:=fun i h g st kp=>by
    obtain⟨gz,gp,⟨u,v,gq⟩,⟨oj,ej,rj⟩,⟨ok,ek,rk⟩⟩:=st
    exact⟨kp z (by simp) _ gz,kp p (by simp) _ gp,⟨u,v,kp q (by simp) _ gq⟩,⟨oj,kp j (by simp) _ ej,rj⟩,⟨ok,kp k (by simp) _ ek,rk⟩⟩
  item:=by
    intro X hP hw hK hc i pins s IA H E I hf st hg
    subst hP hw hK
    obtain⟨gz,gp,⟨u,v,gq⟩,gj,gk⟩:=st
    obtain⟨xs,ys,x,y,ha,hb,hx,hy⟩:=hg
    obtain⟨is,ra,pa,_⟩:=I.tuple ha
    obtain⟨js,rb,pb,_⟩:=I.tuple hb
    obtain⟨xv,hxv,rx⟩:=ra.get hx
    obtain⟨yv,hyv,ry⟩:=rb.get hy
    have sz:∀c∈[z,p,q,j,k],c≠s.heap.objs.size:=fun c hc e=>by
      subst e
      simp only [IE,Jq,or_false] at hc
      rcases hc with e | e | e | e | e
      . exact absurd (IG gz) (by rw [<-e];exact Jd _)
      . exact absurd (IG gp) (by rw [<-e];exact Jd _)
      . exact absurd (IG gq) (by rw [<-e];exact Jd _)
      . obtain⟨oj,ej,_⟩:=gj
        exact absurd (IG ej) (by rw [<-e];exact Jd _)
      . obtain⟨ok,ek,_⟩:=gk
        exact absurd (IG ek) (by rw [<-e];exact Jd _)
    refine DP D gz gp gq gj gk (show s.heap.IsTuple a is.toArray from pa) (show s.heap.IsTuple b js.toArray from pb) (x:=xv) (y:=yv) (by simpa using hxv) (by simpa using hyv) fun g a1 a2 a3 a4 a5 a6 hk=>?_
    refine⟨.ref s.heap.objs.size,rfl,L8 a1 fun g' gz' sb=>?_⟩
    have fr:=I.aN.fresh (a:=s.heap.objs.size) (IF _)
    have I1:Inv X pins IA (upd H s.heap.objs.size (.tup [x,y])) { s with heap:=s.heap.push { cls:=.type "tuple",data:=.seq #[xv,yv] },toks:=s.toks } :=
      I.laid (fun _ _ e=>II _ e) (IF _) ⟨by show 2<=sizeLine;decide,[xv,yv],.cons rx (.cons ry .nil),by first | exact IsTup.new _ _ | exact⟨_,IK _ rfl,rfl,_,rfl,rfl⟩⟩
    have f1:∀c∈[z,p,q,j,k],hX X pins (upd H s.heap.objs.size (.tup [x,y])) c:=fun c hc=>by
      obtain⟨f0,fr'⟩:=hf c hc
      exact⟨by rw [ao (sz c hc)];exact f0,fr'⟩
    have I2:Inv X pins IA (upd H s.heap.objs.size (.tup [x,y])) { s with heap:=g',toks:=s.toks }:=Inv.iD (s:={ s with heap:=s.heap.push { cls:=.type "tuple",data:=.seq #[xv,yv] },toks:=s.toks }) (fp:=[z,p,q,j,k]) (h':=g') (t':=s.toks) I1 (fun c o hc e=>by
      simp only [IE,Jq,or_false,not_or] at hc
      refine sb.extBut _ _ hc.1 ?_
      rcases Li e with ⟨rfl,rfl⟩ | e
      . exact a5
      . exact hk c o hc.1 hc.2.2.1 hc.2.2.2.1 hc.2.2.2.2 e) f1
    refine⟨.ref s.heap.objs.size,_,I2,rfl,⟨_,x,y,rfl,fr,rfl,fun xs' ys' h1 h2=>?_⟩,⟨gz',sb.extBut _ _ D.pz (hk _ _ D.pz D.pq D.pj D.pk gp),⟨xv,yv,sb.extBut _ _ D.qz a2⟩,a3.extBut sb.extBut D.jz,a4.extBut sb.extBut D.kz⟩,fun c hc=>(f1 c hc).1⟩
    rw [I.jY h1 ha,I.jY h2 hb]
    exact⟨hx,hy⟩
  done:=by
    intro X hP hw hK hc i pins s IA H E I hf st hg
    subst hP hw hK
    obtain⟨gz,gp,⟨u,v,gq⟩,gj,gk⟩:=st
    obtain⟨xs,ys,ha,hb,hl⟩:=hg
    obtain⟨is,ra,pa,_⟩:=I.tuple ha
    obtain⟨js,rb,pb,_⟩:=I.tuple hb
    have la:=ra.length
    have lb:=rb.length
    have he:is.toArray[i]?=none\/js.toArray[i]?=none:=by
      rcases hl with h | h
      . exact .inl (by simp;omega)
      . exact .inr (by simp;omega)
    exact DQ (I.ok.hd hc) D gz gp gq gj gk (show s.heap.IsTuple a is.toArray from pa) (show s.heap.IsTuple b js.toArray from pb) he fun g hk=>⟨rfl,I.iD (fp:=[z,p,q,j,k]) (t':=s.toks) (fun c o hc e=>by
      simp only [IE,Jq,or_false,not_or] at hc
      exact hk c o hc.1 hc.2.2.1 hc.2.2.2.1 hc.2.2.2.2 e) hf⟩
  self:=fun _ _ _ _ _ st h=>LV st.1 h
theorem GZ {N a b:Nat}(ha:a<N)(hb:b<N):xA (N+4:Nat) (N+2:Nat) (N+3:Nat) N (N+1:Nat) a b :=
 have ne:∀{u v:Nat},u<v->¬(u=v):=fun h e=>by omega
 have ne':∀{u v:Nat},v<u->¬(u=v):=fun h e=>by omega
 ⟨ne (by omega),ne (by omega),ne (by omega),ne (by omega),ne (by omega),ne' (by omega),ne' (by omega),ne' (by omega),ne' (by omega),ne (by omega),ne (by omega),ne (by omega),ne (by omega),ne (by omega),ne (by omega),ne (by omega),ne (by omega),ne (by omega)⟩
theorem zY:bootBuiltins "zip" = some (.type "zip"):=by decide +kernel
inductive DS (K:IC) (R:(It->Hp->Prop)) (vs:List V) (H1:Hp):Prop
 | mk (a b:_) (_:vs=[.ref a,.ref b]) (_:(∃xs,aw K H1 a xs)) (_:(∃ys,aw K H1 b ys)) (_:R (C8 K a b) H1)
def HJ (K:IC)(ta:TA):TI:=fun IA H R=>ta IA H fun vs H1=>DS K R vs H1
theorem zZ {a b:Expr} {ta:TA} {p pos tp:Pos} {elts:List Expr} {kk:Nat} (hg:Gl X "zip") (hm:X.mg "zip" = none) (ha:PA X [a,b] ta) (hs:starEach [a,b] X.env=[(false,eval a X.env),(false,eval b X.env)]:=by rfl) (hs2:starEach [b] X.env=[(false,eval b X.env)]:=by rfl) :
  PI X (.Tuple elts kk tp) (.Call (.Name "zip" p) [a,b] [] pos) (HJ X.K ta):=by
 intro pins s IA H R I h
 refine Call_ (iT I hg hm zY (PyProof.Rows.callWith_type1 (aX (ha pos pins s IA H _ I h) fun us s1 ⟨vs,H1,I1,r1,q1⟩=>?_) (by rw [hs,hs2]) (by rw [hs2];rfl)))
 obtain⟨x,y,e,⟨xs,hx⟩,⟨ys,hy⟩,q⟩:=q1
 subst e
 cases r1 with
 | cons r rr =>
  cases rr with
  | cons r' rr =>
   cases rr
   cases r
   cases r'
   obtain⟨is,rx,px,_⟩:=I1.tuple hx
   obtain⟨js,ry,py,_⟩:=I1.tuple hy
   have lx:x<s1.heap.objs.size:=px.lt
   have ly:y<s1.heap.objs.size:=py.lt
   refine DR (show s1.heap.IsTuple x is.toArray from px) (show s1.heap.IsTuple y js.toArray from py) fun g gz gp gq gj gk up=>?_
   refine LV gz ?_
   have I2:Inv X pins IA H1 { s1 with heap:=g }:=I1.kept (t':=s1.toks) up
   refine⟨_,[s1.heap.objs.size+4,s1.heap.objs.size+2,s1.heap.objs.size+3,s1.heap.objs.size,s1.heap.objs.size+1],_,C8 X.K x y,H1,rfl,I2,BI x y _ _ _ _ _ ?_,⟨gz,gp,⟨_,_,gq⟩,gj,gk⟩,fun c hc=>?_,q⟩
   ·exact GZ lx ly
   ·have le:s1.heap.objs.size<=c:=by
     simp only [IE,Jq,or_false] at hc
     rcases hc with rfl | rfl | rfl | rfl | rfl
     ·exact JL _ _
     ·exact JL _ _
     ·exact JL _ _
     ·exact IF _
     ·exact JL _ _
    exact I1.lr le (I1.aN.fresh le)
theorem z6 {K:IC}{a b acc:Addr}{xs ys:List V}{n:Nat}{js:List Nat}{g:TG}{ct:TT}{te:TE}{IA : St}{H1:Hp}{Q:VK}(Pv:Nat->List V->St->Hp->Prop)(h0:Pv 0 [] (mZ n js IA) (upd H1 acc (.lst [])))
  (hl:∀i zs IB H,i<=min xs.length ys.length->Pv i zs IB H->aw K H a xs/\aw K H b ys/\H acc=some (.lst zs)/\zs.length<sizeLine)
  (hs:∀i x y zs IB H t,xs[i]?=some x->ys[i]?=some y->H t=none->Pv i zs IB H->g (.ref t) IB (upd H t (.tup [x,y])) fun τ1 H4=>ct τ1 H4 fun b H5=>if b=true then te τ1 H5 fun v H6=>H6 acc=some (.lst zs)/\Pv (i+1) (zs++[v]) τ1 (upd H6 acc (.lst (zs++[v]))) else Pv (i+1) zs τ1 H5)
  (hd:∀zs IB H,Pv (min xs.length ys.length) zs IB H->Q (.ref acc) H) :
  vk (C8 K a b) n js g ct te acc IA H1 Q:=by
 refine⟨fun i m zs IB H=>m=min xs.length ys.length-i/\i<=min xs.length ys.length/\Pv i zs IB H,⟨min xs.length ys.length,by simp,Jc _,h0⟩,?_⟩
 rintro i m zs IB H ⟨rfl,hi,p⟩
 obtain⟨qa,qb,q2,q3⟩:=hl i zs IB H hi p
 refine⟨q2,q3,?_⟩
 by_cases hlt:i<min xs.length ys.length
 ·have l1:i<xs.length:=by omega
  have l2:i<ys.length:=by omega
  refine .inr ⟨⟨xs,ys,xs[i],ys[i],qa,qb,by simp [l1],by simp [l2]⟩,Pv (i+1),fun zs' τ' H' p'=>⟨min xs.length ys.length-(i+1),by omega,rfl,hlt,p'⟩,fun v H' y=>?_⟩
  obtain⟨t,x,y,rfl,ht,rfl,h⟩:=y
  obtain⟨h1,h2⟩:=h xs ys qa qb
  exact hs i x y zs IB H t h1 h2 ht p
 ·have e:i=min xs.length ys.length:=by omega
  subst e
  refine .inl ⟨⟨xs,ys,qa,qb,?_⟩,hd zs IB H p⟩
  rcases Nat.le_total xs.length ys.length with h | h
  ·exact .inl (by omega)
  ·exact .inr (by omega)
end
section
variable {prog:Program}{w:World}{A:Around}{E:Value->Shared->Prop}{s:Shared}
end
section
variable {X:Cx}
end
mutual
inductive aJ (H:Hp):V->PyData->Prop
 | bg:aJ H .bg .none
 | bl (b:Bool):aJ H (.bl b) (.bool b)
 | int (i:Int):aJ H (.int i) (.int i)
 | str (x:Str):aJ H (.str x) (.str x)
 | lst {p:Addr} {xs:List V} {ds:List PyData}:H p=some (.lst xs)->aP H xs ds->aJ H (.ref p) (.list ds)
 | tup {p:Addr} {xs:List V} {ds:List PyData}:H p=some (.tup xs)->aP H xs ds->aJ H (.ref p) (.tuple ds)
inductive aP (H:Hp):List V->List PyData->Prop
 | nil:aP H [] []
 | cons {x:V} {xs:List V} {d:PyData} {ds:List PyData}:aJ H x d->aP H xs ds->aP H (x::xs) (d::ds)
end
section
variable {P:Program}{w:World}{H:Hp}{h:Heap}
mutual
theorem aJ.reads (ok:di P w H h):∀{x:V} {d:PyData} {v:Value},aJ H x d->RelV x v->∃as,Reads h v d as
 | _,_,v,.bg,r=>by
  cases (show v=Value.none from r)
  exact⟨_,.none⟩
 | _,_,v,.bl b,r=>by
  cases (show v=Value.bool b from r)
  exact⟨_,.bool b⟩
 | _,_,v,.int i,r=>by
  obtain⟨t,e⟩:=(show ∃t,v=Value.int i t from r)
  cases e
  exact⟨_,.int i t⟩
 | _,_,v,.str x,r=>by
  obtain⟨t,e⟩:=(show ∃t,v=Value.str x t from r)
  cases e
  exact⟨_,.str x t⟩
 | _,_,v,.lst (p:=p) (xs:=xs) e ds,r=>by
  cases (show v=Value.ref p from r)
  obtain⟨_,its,n,rv,h1⟩:=(show bN P w H h p (.lst xs) from ok p _ e)
  obtain⟨as,ra⟩:=aP.reads ok ds rv
  exact⟨_,.list (vs:=its.toArray) h1 rfl rfl (by simpa using ra)⟩
 | _,_,v,.tup (p:=p) (xs:=xs) e ds,r=>by
  cases (show v=Value.ref p from r)
  obtain⟨_,its,rv,o,h1,h2,n,h3⟩:=(show bN P w H h p (.tup xs) from ok p _ e)
  obtain⟨as,ra⟩:=aP.reads ok ds rv
  exact⟨_,.tuple (vs:=its.toArray) h1 h2 h3.1 (by simpa using ra)⟩
theorem aP.reads (ok:di P w H h):∀{xs:List V} {ds:List PyData} {vs:List Value},aP H xs ds->Vals xs vs->∃as,ReadsAll h vs ds as
 | _,_,_,.nil,.nil=>⟨_,.nil⟩
 | _,_,_,.cons r rs,.cons q qs=>by
  obtain⟨as,ra⟩:=aJ.reads ok r q
  obtain⟨bs,rb⟩:=aP.reads ok rs qs
  exact⟨_,.cons ra rb⟩
end
end
section
variable {X:Cx}
inductive Ft (neg:Bool) (x:V) (y:V) (H:Hp) (Q:VK):Prop
 | mk (dx dy:_) (_:aJ H x dx) (_:aJ H y dy) (_:dx.canLay0=true) (_:dy.canLay0=true) (_:min dx.depth dy.depth<=60) (_:Q (.bl (if neg then !PyData.eqv dx dy else PyData.eqv dx dy)) H)
theorem z7 (hu:X.A.units+64<cLine):dZ X (compareOp .Eq) (Ft false):=by
 intro pins s IA H x y v u Q I rx ry h
 obtain⟨dx,dy,r1,r2,c1,c2,hd,q⟩:=h
 obtain⟨as,ra⟩:=r1.reads I.aN rx
 obtain⟨bs,rb⟩:=r2.reads I.aN ry
 exact PySem.SeqAt.compareEq_reads ra rb c1 c2 (by omega) ⟨.bl _,H,I,rfl,q⟩
theorem vm (hu:X.A.units+64<cLine):dZ X (compareOp .NotEq) (Ft true):=by
 intro pins s IA H x y v u Q I rx ry h
 obtain⟨dx,dy,r1,r2,c1,c2,hd,q⟩:=h
 obtain⟨as,ra⟩:=r1.reads I.aN rx
 obtain⟨bs,rb⟩:=r2.reads I.aN ry
 exact PySem.SeqAt.neOverData X.prog X.w X.A X.xe s v u dx dy as bs _ ra rb c1 c2 (by omega) ⟨.bl _,H,I,rfl,q⟩
end
def one (c:Nat):Str:=⟨#[c]⟩
theorem vn (rest:List Str):∀a:Array Nat,(rest.foldl (fun acc p=>acc++Str.empty.cps++p.cps) a).toList=a.toList++rest.flatMap (·.cps.toList):=by
 induction rest with
 | nil=>intro a;simp
 | cons x r ih =>
  intro a
  rw [Ke,ih]
  have e:Str.empty.cps = #[]:=rfl
  simp [e]
theorem join_ones (cs:List Nat):(Txt.join Str.empty (cs.map one)).cps.toList=cs:=by
 cases cs with
 | nil=>rfl
 | cons c r =>
  show (List.foldl (fun acc p=>acc++Str.empty.cps++p.cps) (#[c]:Array Nat) (r.map one)).toList=c::r
  rw [vn]
  simp only [List.flatMap_map,one]
  simp
theorem BJ:Str.ofString "" = Str.empty:=by decide +kernel
theorem qG {ys:List Str}:∀{us:List Value},Vals (ys.map V.str) us->StrsAre us ys:=by
 induction ys with
 | nil=>intro us r;cases r;exact .nil
 | cons y ys ih =>
  intro us r
  cases r with
  | cons h t =>
   obtain⟨k,e⟩:=h
   subst e
   exact .cons y k (ih t)
section
variable {X:Cx}
inductive rJoin (K:IC) (x:V) (vs:List V) (H:Hp) (Q:VK):Prop
 | mk (z:Str) (p:Addr) (ys:List Str) (_:x=.str z) (_:vs=[.ref p]) (_:aO K H p (ys.map V.str)) (_:(ys.map (·.length)).sum+ys.length*z.length<=16777216) (_:Q (.str (Txt.join z ys)) H)
theorem xC:Fc X "str.join" (rJoin X.K):=by
 intro pins s IA H x vs v us Q I rx rv h
 obtain⟨z,p,ys,rfl,rfl,hS,hz,q⟩:=h
 obtain⟨t,e⟩:=(show ∃t,v=Value.str z t from rx)
 subst e
 obtain⟨u,rfl,ru⟩:=vals1 rv
 cases (show u=Value.ref p from ru)
 obtain⟨its,rv',pl,_⟩:=I.list hS
 exact join_list pl.isList (by simpa using qG rv') hz fun t' k=>⟨.str _,H,I.tok k,⟨_,rfl⟩,q⟩
end
inductive cH where
 | put (x:Str) (n:Int)
 | copy (x y:Str)
 | add (x:Str) (n:Int)
 | read (x:Str)
 | tell (x:Str)
inductive End where
 | stop
 | go (p:Nat)
 | cC (less:Bool) (x:Str) (n:Int) (p q:Nat)
abbrev Piece:=List cH×End
def wT (b:Bool):Str:=if b=true then "less" else "is"
def cu:cH->PyData
 | .put x n=>.tuple [.str "put",.str x,.int n]
 | .copy x y=>.tuple [.str "copy",.str x,.str y]
 | .add x n=>.tuple [.str "add",.str x,.int n]
 | .read x=>.tuple [.str "read",.str x]
 | .tell x=>.tuple [.str "tell",.str x]
def eX:End->PyData
 | .stop=>.tuple [.str "stop"]
 | .go p=>.tuple [.str "go",.int p]
 | .cC b x n p q=>.tuple [.str (wT b),.str x,.int n,.int p,.int q]
def bK (p:Piece):PyData:=.tuple [.tuple (p.1.map cu),eX p.2]
def bM (ps:List Piece):PyData:=.tuple (ps.map bK)
structure dP (x:Str):Prop where
 lo:1<=x.length
 hi:x.length<=8
 az:∀c∈x.cps.toList,97<=c/\c<=122
def lF (n:Int):Prop:=-(10 ^ 40)<n/\n<10 ^ 40
def cB (xs:List Str):cH->Prop
 | .put x n=>x∈xs/\lF n
 | .copy x y=>x∈xs/\y∈xs
 | .add x n=>x∈xs/\lF n
 | .read x=>x∈xs
 | .tell x=>x∈xs
def ft (xs:List Str)(count:Nat):End->Prop
 | .stop=>True
 | .go p=>p<count
 | .cC _ x n p q=>x∈xs/\lF n/\p<count/\q<count
structure bY (xs:List Str) (most:Nat) (ps:List Piece):Prop where
 fb:∀p∈ps,p.1.length<=most/\∀d∈p.1,cB xs d
 ends:∀p∈ps,ft xs ps.length p.2
mutual
def bA:PyData->Bool
 | .list _=>false
 | .tuple xs=>bB xs
 | _=>true
def bB:List PyData->Bool
 | []=>true
 | x::xs=>bA x&&bB xs
end
mutual
theorem aJ.av {H H':Hp}(k:∀p xs,H p=some (.tup xs)->H' p=some (.tup xs)):∀{x:V} {d:PyData},aJ H x d->bA d=true->aJ H' x d
 | _,_,.bg,_=>.bg
 | _,_,.bl b,_=>.bl b
 | _,_,.int i,_=>.int i
 | _,_,.str x,_=>.str x
 | _,_,.lst _ _,h=>nomatch h
 | _,_,.tup e ds,h=>.tup (k _ _ e) (aP.av k ds h)
theorem aP.av {H H':Hp}(k:∀p xs,H p=some (.tup xs)->H' p=some (.tup xs)):∀{xs:List V} {ds:List PyData},aP H xs ds->bB ds=true->aP H' xs ds
 | _,_,.nil,_=>.nil
 | _,_,.cons r rs,h=>by
  simp only [bB,Jp] at h
  exact .cons (aJ.av k r h.1) (aP.av k rs h.2)
end
theorem aJ.fix {b:Addr}{H H':Hp}{x:V}{d:PyData}(r:aJ H x d)(hb:cT H b)(f:Fix b H H')(n:bA d=true):aJ H' x d :=
 r.av (fun p xs e=>f p _ e (hb.de e)) n
theorem aJ.same {H H':Hp}{x:V}{d:PyData}(r:aJ H x d)(f:af H H')(n:bA d=true):aJ H' x d :=
 r.av (fun p xs e=>f p _ e) n
theorem aP.fix {b:Addr}{H H':Hp}{xs:List V}{ds:List PyData}(r:aP H xs ds)(hb:cT H b)(f:Fix b H H')(n:bB ds=true):aP H' xs ds :=
 r.av (fun p xs e=>f p _ e (hb.de e)) n
theorem aP.same {H H':Hp}{xs:List V}{ds:List PyData}(r:aP H xs ds)(f:af H H')(n:bB ds=true):aP H' xs ds :=
 r.av (fun p xs e=>f p _ e) n
theorem aP.put {H:Hp}{xs ys:List V}{ds:List PyData}{l:Addr}{o:HO}(r:aP H xs ds)(hl:H l=some (.lst ys))(n:bB ds=true):aP (upd H l o) xs ds :=
 r.av (fun p zs e=>by rw [ao (bU e hl (by intro z;cases z))];exact e) n
theorem aP.app {H:Hp}{x:V}{d:PyData}:∀{xs:List V} {ds:List PyData},aP H xs ds->aJ H x d->aP H (xs++[x]) (ds++[d])
 | _,_,.nil,q=>.cons q .nil
 | _,_,.cons r rs,q=>.cons r (aP.app rs q)
theorem aP.len {H:Hp}:∀{xs:List V} {ds:List PyData},aP H xs ds->xs.length=ds.length
 | _,_,.nil=>rfl
 | _,_,.cons _ rs=>by simp [aP.len rs]
theorem gg (d:cH):bA (cu d)=true:=by cases d <;> rfl
theorem ic (e:End):bA (eX e)=true:=by cases e <;> rfl
theorem aQ:∀ds:List cH,bB (ds.map cu)=true
 | []=>rfl
 | d::ds=>by show (bA (cu d)&&bB (ds.map cu))=true;rw [gg,aQ ds];rfl
theorem bZ (p:Piece):bA (bK p)=true:=by
 show (bB (p.1.map cu)&&(bA (eX p.2)&&true))=true
 rw [aQ,ic];rfl
theorem bL:∀ps:List Piece,bB (ps.map bK)=true
 | []=>rfl
 | p::ps=>by show (bA (bK p)&&bB (ps.map bK))=true;rw [bZ,bL ps];rfl
theorem aH (ps:List Piece):bA (bM ps)=true:=bL ps
structure fj (H:Hp) (b l:Addr) (xs:List Str):Prop where
 at_:H l=some (.lst (xs.map V.str))
 ne:l≠b
 yK:xs≠[]
 b8:xs.length<=1000
 ok:∀x∈xs,dP x
theorem fj.fix {H H':Hp}{b l:Addr}{xs:List Str}(h:fj H b l xs)(f:Fix b H H'):fj H' b l xs:=⟨f l _ h.at_ h.ne,h.ne,h.yK,h.b8,h.ok⟩
theorem fj.pos {H:Hp}{b l:Addr}{xs:List Str}(h:fj H b l xs):0<((xs.map V.str).length:Int)/\((xs.map V.str).length:Int)<1073741824:=by
 have h1:=h.yK
 have h2:=h.b8
 have h3:0<xs.length:=by cases xs with | nil=>exact absurd rfl h1 | cons _ _=>simp
 rw [ID]
 omega
inductive xD  (vs:List V) (H:Hp) (Q:VK) (_:XK):Prop
 | mk (b:Addr) (_:vs=[.ref b]) (_:cT H b) (_:∀l xs H',fj H' b l xs->xs.length<=4->cT H' b->Fix b H H'->Q (.ref l) H')
inductive lG  (vs:List V) (H:Hp) (Q:VK) (_:XK):Prop
 | mk (b:Addr) (_:vs=[.ref b]) (_:cT H b) (_:∀n H',lF n->cT H' b->Fix b H H'->Q (.int n) H')
inductive vo  (vs:List V) (H:Hp) (Q:VK) (_:XK):Prop
 | mk (b l:Addr) (xs:List Str) (_:vs=[.ref b,.ref l]) (_:cT H b) (_:fj H b l xs) (_:∀v d H',aJ H' v (cu d)->cB xs d->cT H' b->Fix b H H'->Q v H')
inductive vp  (vs:List V) (H:Hp) (Q:VK) (_:XK):Prop
 | mk (b l:Addr) (xs:List Str) (c:Nat) (_:vs=[.ref b,.ref l,.int c]) (_:cT H b) (_:fj H b l xs) (_:0<c) (_:c<1073741824) (_:∀v e H',aJ H' v (eX e)->ft xs c e->cT H' b->Fix b H H'->Q v H')
inductive z8  (vs:List V) (H:Hp) (Q:VK) (_:XK):Prop
 | mk (b:Addr) (c m:Nat) (_:vs=[.ref b,.int c,.int m]) (_:cT H b) (_:0<c) (_:c<=1000) (_:m<=1000) (_:∀v xs ps H',aJ H' v (bM ps)->ps.length=c->bY xs m ps->((∀x∈xs,dP x)/\xs.length<=4)->cT H' b->Fix b H H'->Q v H')
def qH:Str := "abcdefghijklmnopqrstuvwxyz"
theorem vq:qH.cps.toList=(Js 26).map (· + 97):=by decide +kernel
theorem xE:qH.length<=sizeLine:=by decide +kernel
theorem z9 {r:Int}(h0:0<=r)(h1:r<26):∃c,fG qH.cps.toList r=some c/\97<=c/\c<=122:=by
 have hl:qH.cps.toList.length=26:=by rw [vq];simp
 obtain⟨c,hc,hm⟩:=yJ (xs:=qH.cps.toList) h0 (by rw [hl];exact h1)
 refine⟨c,hc,?_⟩
 rw [vq] at hm
 obtain⟨k,hk,rfl⟩:=IS.mp hm
 have:=JV.mp hk
 omega
theorem pO {xs:List Str}{r:Int}(h0:0<=r)(h1:r<((xs.map V.str).length:Int)):∃x,fG (xs.map V.str) r=some (V.str x)/\x∈xs:=by
 obtain⟨v,hv,hm⟩:=yJ h0 h1
 obtain⟨x,hx,rfl⟩:=IS.mp hm
 exact⟨x,hv,hx⟩
theorem i7 {IA : L2.St}{H:Hp}{Q:Bool->Hp->Prop}(h:Q true H):Fp IA H Q:=h
theorem bu {i:Nat}{v:V}{IA : L2.St}{H:Hp}{Q:L2.St->Hp->Prop}(h:Q (IA.set i (some v)) H):oo i v IA H Q:=h
section
variable {κ : Type}[DecidableEq κ]
def dm (kvs:List (κ×V))(k:κ):Option V:=(kvs.find? fun kv=>decide (kv.1=k)).map (·.2)
def putK (kvs:List (κ×V))(k:κ)(v:V):List (κ×V) :=
 if (kvs.any fun kv=>decide (kv.1=k))=true then kvs.map (fun kv=>if kv.1=k then (kv.1,v) else kv) else kvs++[(k,v)]
theorem dM {p:κ×V}{r:List (κ×V)}{k:κ}(e:p.1=k):dm (p::r) k=some p.2:=by simp [dm,Kf,e]
theorem dN {p:κ×V}{r:List (κ×V)}{k:κ}(e:¬p.1=k):dm (p::r) k=dm r k:=by simp [dm,Kf,e]
theorem lH (k:κ):∀kvs:List (κ×V),(kvs.any fun kv=>decide (kv.1=k))=(dm kvs k).isSome
 | []=>rfl
 | p::r=>by
  rw [Kd]
  by_cases e:p.1=k
  ·simp only [dM e,decide_eq_true e,Bool.true_or,Option.isSome_some]
  ·rw [dN e,decide_eq_false e,Bool.false_or];exact lH k r
theorem vt (k j:κ)(y:V):∀kvs:List (κ×V),dm (kvs.map fun kv=>if kv.1=k then (kv.1,y) else kv) j=(dm kvs j).map fun x=>if j=k then y else x
 | []=>rfl
 | p::r=>by
  have ih:=vt k j y r
  rw [Jj]
  by_cases h:p.1=k
  ·rw [if_pos h]
   by_cases e:p.1=j
   ·rw [dM (p:=(p.1,y)) e,dM e,KQ,if_pos (e.symm.trans h)]
   ·rw [dN (p:=(p.1,y)) e,dN e,ih]
  ·rw [if_neg h]
   by_cases e:p.1=j
   ·rw [dM (p:=p) e,dM e,KQ,if_neg (fun z=>h (e.trans z))]
   ·rw [dN (p:=p) e,dN e,ih]
theorem tU (k j:κ)(y:V):∀kvs:List (κ×V),dm kvs k=none->dm (kvs++[(k,y)]) j=if j=k then some y else dm kvs j
 | [],_=>by
  by_cases e:k=j
  ·rw [if_pos e.symm];exact dM (p:=(k,y)) e
  ·rw [if_neg (fun z=>e z.symm)];exact dN (p:=(k,y)) e
 | p::r,hn=>by
  rw [List.cons_append]
  have hk:¬p.1=k:=fun z=>by rw [dM z] at hn;cases hn
  rw [dN hk] at hn
  have ih:=tU k j y r hn
  by_cases e:p.1=j
  ·rw [dM e,dM e,if_neg (fun z=>hk (e.trans z))]
  ·rw [dN e,dN e,ih]
theorem BK (kvs:List (κ×V))(k j:κ)(y:V):dm (putK kvs k y) j=if j=k then some y else dm kvs j:=by
 unfold putK
 by_cases a:(kvs.any fun kv=>decide (kv.1=k))=true
 ·rw [if_pos a,vt]
  rw [lH] at a
  by_cases e:j=k
  ·obtain⟨x,hx⟩:=Option.isSome_iff_exists.mp a
   rw [if_pos e,e,hx,KQ,if_pos rfl]
  ·rw [if_neg e]
   cases dm kvs j with
   | none=>rfl
   | some x=>rw [KQ,if_neg e]
 ·rw [if_neg a]
  refine tU k j y kvs ?_
  rw [lH] at a
  cases q:dm kvs k with
  | none=>rfl
  | some x=>rw [q] at a;exact (a rfl).elim
theorem o1 (kvs:List (κ×V))(k:κ)(v:V):(putK kvs k v).length<=kvs.length+1:=by
 unfold putK
 split
 ·rw [ID];omega
 ·rw [IJ,Jr,KR];omega
theorem fm.Aa {o:Option V}{u:Option Value}(r:fm o u):o.isSome=u.isSome:=by
 cases o with
 | none=>cases u with
  | none=>rfl
  | some _=>exact (show False from r).elim
 | some _=>cases u with
  | none=>exact (show False from r).elim
  | some _=>rfl
theorem fm.getD {o:Option V}{u:Option Value}{d:V}{d':Value}(r:fm o u)(rd:RelV d d'):RelV (o.getD d) (u.getD d'):=by
 cases o with
 | none=>cases u with
  | none=>exact rd
  | some _=>exact (show False from r).elim
 | some _=>cases u with
  | none=>exact (show False from r).elim
  | some _=>exact r
theorem KV.val {kvs:List (κ×V)}{vs:List (κ×Value)}(r:KV kvs vs)(k:κ):fm (dm kvs k) (valueAt vs k):=by
 unfold KV at r
 induction r with
 | nil=>exact True.intro
 | @cons p q ps qs h t ih =>
  obtain⟨h1,h2⟩:=h
  by_cases e:p.1=k
  ·have e':q.1=k:=h1.symm.trans e
   have b:valueAt (q::qs) k=some q.2:=by simp [valueAt,Kf,e']
   rw [dM e,b];exact h2
  ·have e':¬q.1=k:=fun z=>e (h1.trans z)
   have b:valueAt (q::qs) k=valueAt qs k:=by simp [valueAt,Kf,e']
   rw [dN e,b];exact ih
theorem KV.any {kvs:List (κ×V)}{vs:List (κ×Value)}(r:KV kvs vs)(k:κ):(kvs.any fun kv=>decide (kv.1=k))=vs.any fun kv=>decide (kv.1=k):=by
 unfold KV at r
 induction r with
 | nil=>rfl
 | cons h t ih=>rw [Kd,Kd,ih,h.1]
theorem KV.BL {kvs:List (κ×V)}{vs:List (κ×Value)}(r:KV kvs vs)(k:κ){y:V}{u:Value}(ry:RelV y u) :
  KV (kvs.map fun kv=>if kv.1=k then (kv.1,y) else kv) (vs.map fun kv=>if kv.1=k then (kv.1,u) else kv):=by
 unfold KV at r ⊢
 induction r with
 | nil=>exact .nil
 | @cons p q ps qs h t ih =>
  rw [Jj,Jj]
  refine .cons ?_ ih
  obtain⟨h1,h2⟩:=h
  by_cases e:p.1=k
  ·rw [if_pos e,if_pos (h1.symm.trans e)];exact⟨h1,ry⟩
  ·rw [if_neg e,if_neg (fun z=>e (h1.trans z))];exact⟨h1,h2⟩
theorem KV.put {kvs:List (κ×V)}{vs:List (κ×Value)}(r:KV kvs vs)(k:κ){y:V}{u:Value}(ry:RelV y u):KV (putK kvs k y) (stored vs k u):=by
 unfold putK stored
 rw [r.any k]
 by_cases e:(vs.any fun kv=>decide (kv.1=k))=true
 ·rw [if_pos e,if_pos e];exact r.BL k ry
 ·rw [if_neg e,if_neg e];exact Paired.snoc r ⟨rfl,ry⟩
theorem KV.keys {kvs:List (κ×V)}{vs:List (κ×Value)}(r:KV kvs vs):kvs.map (·.1)=vs.map (·.1):=by
 unfold KV at r
 induction r with
 | nil=>rfl
 | cons h t ih=>rw [Jj,Jj,ih,h.1]
theorem KV.length {kvs:List (κ×V)}{vs:List (κ×Value)}(r:KV kvs vs):kvs.length=vs.length:=Paired.length r
end
theorem qI {P:Program}{w:World}{k:Key}{u:Value}(r:RelV (kV k) u):(aT P w).is k u=true:=by
 cases k with
 | inl i=>obtain⟨t,e⟩:=(show ∃t,u=Value.int i t from r);subst e;exact oR P w i t
 | inr x=>obtain⟨t,e⟩:=(show ∃t,u=Value.str x t from r);subst e;exact oU P w x t
theorem tV {P:Program}{w:World}:∀{ks:List Key} {us:List Value},Vals (ks.map kV) us->ItemsAre (aT P w) ks us
 | [],_,r=>by rw [List.map_nil] at r;cases r;exact .nil
 | k::ks,_,r=>by
  rw [Jj] at r
  cases r with
  | cons h t=>exact .cons (qI h) (tV t)
abbrev KT (H:Hp):List (List Key×V)->List (List Key×Addr×Value)->Prop:=Paired fun p q=>p.1=q.1/\H q.2.1=some (.tup (p.1.map kV))/\RelV p.2 q.2.2
theorem KT.val {H:Hp}{kvs:List (List Key×V)}{xs:List (List Key×Addr×Value)}(r:KT H kvs xs)(k:List Key):fm (dm kvs k) ((atKey xs k).map (·.2)):=by
 induction r with
 | nil=>exact True.intro
 | @cons p q ps qs h t ih =>
  obtain⟨h1,_,h2⟩:=h
  by_cases e:p.1=k
  ·have e':q.1=k:=h1.symm.trans e
   have b:atKey (q::qs) k=some q.2:=by simp [atKey,Kf,e']
   rw [dM e,b];exact h2
  ·have e':¬q.1=k:=fun z=>e (h1.trans z)
   have b:atKey (q::qs) k=atKey qs k:=by simp [atKey,Kf,e']
   rw [dN e,b];exact ih
theorem KT.BL {H:Hp}{kvs:List (List Key×V)}{xs:List (List Key×Addr×Value)}(r:KT H kvs xs)(k:List Key){y:V}{u:Value}(ry:RelV y u) :
  KT H (kvs.map fun kv=>if kv.1=k then (kv.1,y) else kv) (xs.map (putAt k u)):=by
 induction r with
 | nil=>exact .nil
 | @cons p q ps qs h t ih =>
  rw [Jj,Jj]
  refine .cons ?_ ih
  obtain⟨h1,h2,h3⟩:=h
  unfold putAt
  by_cases e:p.1=k
  ·rw [if_pos e,if_pos (h1.symm.trans e)];exact⟨h1,h2,ry⟩
  ·rw [if_neg e,if_neg (fun z=>e (h1.trans z))];exact⟨h1,h2,h3⟩
theorem KT.put {H:Hp}{kvs:List (List Key×V)}{xs:List (List Key×Addr×Value)}(r:KT H kvs xs)(k:List Key){b:Addr}{y:V}{u:Value}(hb:H b=some (.tup (k.map kV)))(ry:RelV y u) :
  KT H (putK kvs k y) (storedH xs k b u):=by
 have e:(kvs.any fun kv=>decide (kv.1=k))=(atKey xs k).isSome:=by
  rw [lH,(r.val k).Aa,Option.isSome_map]
 unfold putK storedH
 rw [e]
 by_cases q:(atKey xs k).isSome=true
 ·rw [if_pos q,if_pos q];exact r.BL k ry
 ·rw [if_neg q,if_neg q];exact Paired.snoc r ⟨rfl,hb,ry⟩
theorem KT.keeps {H H':Hp}{kvs:List (List Key×V)}{xs:List (List Key×Addr×Value)}(r:KT H kvs xs)(ht:∀b ys,H b=some (.tup ys)->H' b=some (.tup ys)):KT H' kvs xs :=
 Paired.Bc r fun _ _ z=>⟨z.1,ht _ _ z.2.1,z.2.2⟩
section
variable {P:Program}{w:World}{H:Hp}{h:Heap}{a:Addr}
theorem C9 {u:HO}(ok:di P w H h)(e:Rd H a u):bN P w H h a u:=e.ok ok
theorem qJ {kvs:List (Key×V)}(ok:di P w H h)(e:Rd H a (.dK kvs)):kvs.length<=sizeLine/\(a == sysModules)=false/\∃vs,KV kvs vs/\h.DictOf (aT P w) a vs :=
 show bN P w H h a (.dK kvs) from C9 ok e
theorem Dc {kvs:List (Key×V)}(ok:di P w H h)(e:H a=some (.dK kvs)):kvs.length<=sizeLine/\(a == sysModules)=false/\∃vs,KV kvs vs/\h.DictOf (aT P w) a vs:=qJ ok (.inl e)
theorem qK {ks:List Key}(ok:di P w H h)(e:H a=some (.tup (ks.map kV))):(tupleKind (aT P w)).is h ks a:=by
 obtain⟨_,its,r,o,h1,h2,n,h3⟩:=(show bN P w H h a (.tup (ks.map kV)) from ok a _ e)
 exact⟨o,its.toArray,n,h1,h2,h3.1,by simpa using tV r⟩
theorem qL {kvs:List (List Key×V)}(ok:di P w H h)(e:Rd H a (.dT kvs)):kvs.length<=sizeLine/\(a == sysModules)=false /\
  ∃xs,KT H kvs xs/\h.DictOfH (tupleKind (aT P w)) a xs:=by
 obtain⟨z,y,xs,r,o,es,ep,h1,h2,h3,h4,h5⟩:=(show bN P w H h a (.dT kvs) from C9 ok e)
 refine⟨z,y,xs,r,o,es,ep,h1,h2,h3,h4,fun x hx=>?_,h5⟩
 have all:∀{l:List (List Key×V)} {m:List (List Key×Addr×Value)},KT H l m->∀x∈m,(tupleKind (aT P w)).is h x.1 x.2.1:=by
  intro l m q
  induction q with
  | nil=>intro x hx;exact nomatch hx
  | @cons p q ps qs hq t ih =>
   intro x hx
   rcases IE.mp hx with e | hx
   ·subst e
    exact qK ok (by rw [<-hq.1];exact hq.2.1)
   ·exact ih x hx
 exact all r x hx
theorem Gw {kvs:List (List Key×V)}(ok:di P w H h)(e:H a=some (.dT kvs)):kvs.length<=sizeLine/\(a == sysModules)=false /\
  ∃xs,KT H kvs xs/\h.DictOfH (tupleKind (aT P w)) a xs:=qL ok (.inl e)
end
def ie (H:Hp)(a:Addr)(y:V)(r:Option V):Prop :=
 (∃kvs k,Rd H a (.dK kvs)/\y=kV k/\r=dm kvs k)\/∃kvs k b,Rd H a (.dT kvs)/\y=.ref b/\H b=some (.tup (k.map kV))/\r=dm kvs k
def lI (H:Hp)(a:Addr)(y v:V)(H':Hp):Prop :=
 (∃kvs k,H a=some (.dK kvs)/\y=kV k/\kvs.length<sizeLine/\H' = upd H a (.dK (putK kvs k v))) \/
 ∃kvs k b,H a=some (.dT kvs)/\y=.ref b/\H b=some (.tup (k.map kV))/\kvs.length<sizeLine/\H' = upd H a (.dT (putK kvs k v))
theorem ie.k {H:Hp}{a:Addr}{kvs:List (Key×V)}{k:Key}(e:H a=some (.dK kvs)):ie H a (kV k) (dm kvs k):=.inl ⟨kvs,k,.inl e,rfl,rfl⟩
theorem lI.k {H:Hp}{a:Addr}{kvs:List (Key×V)}{k:Key}{v:V}(e:H a=some (.dK kvs))(hl:kvs.length<sizeLine):lI H a (kV k) v (upd H a (.dK (putK kvs k v))):=.inl ⟨kvs,k,e,rfl,hl,rfl⟩
section
variable {X:Cx}{pins:List (Addr×Obj)}{IA : St}{H:Hp}{s:Shared}{a:Addr}{y v:V}{u r:Value}{o:Option V}{A:Around}{E:Value->Shared->Prop}
theorem Inv.big (I:Inv X pins IA H s):sysModules<s.heap.objs.size:=by
 have h:mainGlobals<s.heap.objs.size:=(I.mod.glob.keeps I.bk).lt
 exact Kp (by decide) h
theorem Ab {Q:Value->Shared->Prop}(hu:A.units+1<cLine)(I:Inv X pins IA H s)(g:ie H a y (some v))(ry:RelV y u)(h:∀w' s',Inv X pins IA H s'->RelV v w'->Q w' s') :
  wpAny (model X.prog X.w) A (getItem (.ref a) u) Q E s:=by
 rcases g with ⟨kvs,k,e,ey,l⟩ | ⟨kvs,k,b,e,ey,eb,l⟩
 ·subst ey
  obtain⟨z,hd,vs,rel,dd⟩:=qJ I.aN e
  obtain⟨w',hw,rw'⟩:=fm.some_of (v:=v) (o:=valueAt vs k) (by rw [l];exact rel.val k)
  exact wpAny_getItem_of (qI ry) dd.mapOf hw (h w' _ (I.tok _) rw')
 ·subst ey
  cases (show u=Value.ref b from ry)
  obtain⟨z,hd,xs,rel,dd⟩:=qL I.aN e
  obtain⟨w',hw,rw'⟩:=fm.some_of (v:=v) (o:=(atKey xs k).map (·.2)) (by rw [l];exact rel.val k)
  obtain⟨p,hp,hp2⟩:=Option.map_eq_some_iff.mp hw
  refine wpAny_getItem_heap (tupleKind_room_in1 hu) (qK I.aN eb) dd hp ?_
  rw [hp2]
  exact h w' _ (I.tok _) rw'
theorem xF {h':Heap}{t':Nat}{ob:HO}(I:Inv X pins IA H s)(mu:zy (H a))(hs:Jk a s.heap h')(he:∃q,h'.get? a=some q)(new:bN X.prog X.w (upd H a ob) h' a ob) :
  Inv X pins IA (upd H a ob) { s with heap:=h',toks:=t' } :=
 I.write (x:=a) (e:=a) mu (.inl rfl) (fun b q hb z=>(hs.2 b hb).trans z) he new
theorem Ac {P:Program}{w:World}{H':Hp}{h':Heap}{kvs:List (Key×V)}{vs:List (Key×Value)}(z:kvs.length<=sizeLine)(hd:(a == sysModules)=false)(rel:KV kvs vs)(dd:h'.DictOf (aT P w) a vs) :
  bN P w H' h' a (.dK kvs):=⟨z,hd,vs,rel,dd⟩
theorem Ad {H':Hp}{Q:Unit->Shared->Prop}(hu:A.units+1<cLine)(I:Inv X pins IA H s)(g:lI H a y v H')(ry:RelV y u)(rv:RelV v r)(h:∀s',Inv X pins IA H' s'->Q () s') :
  wpAny (model X.prog X.w) A (setItem (.ref a) u r) Q E s:=by
 rcases g with ⟨kvs,k,e,ey,l,eH⟩ | ⟨kvs,k,b,e,ey,eb,l,eH⟩
 ·subst ey eH
  obtain⟨z,hd,vs,rel,dd⟩:=Dc I.aN e
  have hz:vs.length<=sizeLine:=by rw [<-rel.length];exact z
  have hl:(putK kvs k v).length<=sizeLine:=by have:=o1 kvs k v;omega
  refine wpAny_setItem_pairs (hsz:=hz) (qI ry) dd fun h' dd' hs=>h _ ?_
  have he:∃q,h'.get? a=some q:=let ⟨q,_,_,hq,_⟩:=dd';⟨q,hq⟩
  exact xF I (by rw [e];exact True.intro) hs he (Ac hl hd (rel.put k rv) dd')
 ·subst ey eH
  cases (show u=Value.ref b from ry)
  obtain⟨z,hd,xs,rel,dd⟩:=Gw I.aN e
  have hz:xs.length<=sizeLine:=by rw [<-Paired.length rel];exact z
  have hl:(putK kvs k v).length<=sizeLine:=by have:=o1 kvs k v;omega
  refine wpAny_setItem_heap (hsz:=hz) (tupleKind_room_in1 hu) (qK I.aN eb) dd fun h' dd' hs=>h _ ?_
  obtain⟨q,es,ep,hq,h2,h3,h4,_,h5⟩:=dd'
  refine xF I (by rw [e];exact True.intro) hs ⟨q,hq⟩ ⟨hl,hd,_,(rel.put k eb rv).keeps fun c ys ec=>?_,q,es,ep,hq,h2,h3,h4,h5⟩
  rw [ao (bU ec e (fun z=>nomatch z))]
  exact ec
end
section
variable {X:Cx}{pins:List (Addr×Obj)}{IA : St}{H:Hp}{s:Shared}{a:Addr}{kvs:List (Key×V)}{k:Key}{u:Value}{A:Around}{E:Value->Shared->Prop}
end
def yL (i:Expr):Prop:=∀ov iv,subscripted i false ov iv=operate [ov,iv] (getItem ov iv)
theorem sC {prog:Program}{w:World}{A:Around}{E:Value->Shared->Prop}{s:Shared}{env:Env}{value slice:Expr}{pos:Pos}{T id:String}{Q:Value->Shared->Prop}
  (hl:typeLookup (.type T) "__getitem__" = pure (some (.builtin id))) (hs:yL slice)
  (h:wpAny (model prog w) A (eval value env) (fun o s₁=>wpAny (model prog w) A (eval slice env) (fun i s₂=>s₂.TypeIs o T/\wpAny (model prog w) A (getItem o i) Q E s₂) E s₁) E s) :
  wpAny (model prog w) A (eval (.Subscript value slice pos) env) Q E s:=by
 refine Subscript_ (Lr h (fun o s₁ h₁=>Lr h₁ (fun i s₂ h₂=>?_) fun _ _ x=>x) fun _ _ x=>x)
 obtain⟨hT,h₂⟩:=h₂
 unfold subscriptTail
 refine Lo ?_
 rw [getitemInPython_of_ne hT.not_modules]
 refine Lo (wpAny_specialOf hT hl ?_)
 have fin:wpAny (model prog w) A (subscripted slice false o i) (fun r s₃=>wpAny (model prog w) A (letTemporaryGo value o r >>= fun _=>pure r) Q E s₃) E s₂:=by
  rw [hs o i]
  exact wpAny_operating (Lr h₂ (fun r s₃ h₃=>Lo (wpAny_letTemporaryGo (Lq h₃))) fun _ _ x=>x)
 first
  | exact Lq (Lo fin)
  | exact Lo (Lq (Lo fin))
  | exact Lo fin
theorem wK {X:Cx} {pins:List (Addr×Obj)} {IA : St} {H:Hp} {s:Shared} {a:Addr} {y:V} {o:Option V} (I:Inv X pins IA H s) (g:ie H a y o):s.TypeIs (.ref a) "dict" := by
 rcases g with ⟨kvs,k,e,_,_⟩ | ⟨kvs,k,b,e,_,_,_⟩
 ·obtain⟨_,_,vs,_,dd⟩:=qJ I.aN e
  exact dd.typeIs
 ·obtain⟨_,_,xs,_,dd⟩:=qL I.aN e
  exact dd.typeIs
inductive BM (Q:VK) (x:V) (y:V) (H2:Hp):Prop
 | mk (a v:_) (_:x=.ref a) (_:ie H2 a y (some v)) (_:Q v H2)
def Gx (td ty:TE):TE:=fun IA H Q=>td IA H fun x H1=>ty IA H1 fun y H2=>BM Q x y H2
def Gy (td ty tv:TE):TS:=fun D IA H=>tv IA H fun v H1=>td IA H1 fun x H2=>ty IA H2 fun y H3=>∃a H4,x=.ref a/\lI H3 a y v H4/\D.nx IA H4
section
variable {X:Cx}{o i e value:Expr}{pos pos' tpos:Pos}{td ty tv:TE}
theorem xG (hu:X.A.units+1<cLine)(ho:PE X o td)(hi:PE X i ty)(hs:yL i):PE X (.Subscript o i pos) (Gx td ty):=by
 intro pins s IA H Q I h
 refine sC PySem.F.slot_dict_getitem.lookup hs (aX (ho pins s IA H _ I h) fun u s1 ⟨x,H1,I1,rx,q1⟩=>aX (hi pins s1 IA H1 _ I1 q1) fun iv s2 ⟨y,H2,I2,ry,a,v,ex,g,q2⟩=>?_)
 subst ex
 obtain rfl:u=Value.ref a:=rx
 exact⟨wK I2 g,Ab hu I2 g ry fun w' s3 I3 rw'=>⟨v,H2,I3,rw',q2⟩⟩
theorem kN (hu:X.A.units+1<cLine)(ho:PE X o td)(hi:PE X i ty)(hv:PE X value tv)(hs:swapsWith value (some (.Subscript o i pos')) pos.line X.env=pure false) :
  PS X (.Assign [.Subscript o i pos'] value pos) (Gy td ty tv):=by
 intro pins s IA H D I h
 refine wpAny_Assign_Subscript (aX (hv pins s IA H _ I h) fun r s1 ⟨v,H1,I1,rv,q1⟩=>aX (ho pins s1 IA H1 _ I1 q1) fun u s2 ⟨x,H2,I2,rx,q2⟩=>aX (hi pins s2 IA H2 _ I2 q2) fun iv s3 ⟨y,H3,I3,ry,a,H4,ex,g,q3⟩=>?_) hs
 subst ex
 obtain rfl:u=Value.ref a:=rx
 exact Ad hu I3 g ry rv fun s4 I4=>⟨IA,H4,I4,q3⟩
end
theorem vv {P:Program}{w:World}{H:Hp}(h:Heap)(hb:sysModules<h.objs.size):bN P w H (h.push { cls:=.type "dict",data:=.dict #[] }) h.objs.size (.dK []) :=
 ⟨Jc _,beq_eq_false_iff_ne.mpr (Ne.symm (IL hb)),[],.nil,Heap.DictOf.new h⟩
def Fu:TE:=fun _ H Q=>∀p,H p=none->Q (.ref p) (upd H p (.dK []))
section
variable {X:Cx}{pos:Pos}
theorem BN:PE X (.Dict [] [] pos) Fu:=fun pins s IA H Q I h =>
 wpAny_Dict_empty ⟨.ref s.heap.objs.size,_,I.laid (a:=s.heap.objs.size) (o:=.dK []) (t':=s.toks) (fun _ _ q=>II _ q) (IF _) (vv s.heap I.big),rfl,h _ (I.aN.fresh (IF _))⟩
end
def vw:List (TE×TE)->St->Hp->(List (V×V)->Hp->Prop)->Prop
 | [],_,H,Q=>Q [] H
 | (tk,tv)::r,IA,H,Q=>tk IA H fun x H1=>tv IA H1 fun y H2=>vw r IA H2 fun ps H3=>Q ((x,y)::ps) H3
abbrev VV:List (V×V)->List (Value×Value)->Prop:=Paired fun p q=>RelV p.1 q.1/\RelV p.2 q.2
def Dd (X:Cx)(pos:Pos)(keys:List (Option Expr))(values:List Expr)(trs:List (TE×TE)):Prop :=
 ∀(pins:List (Addr×Obj)) (s:Shared) (IA : St) (H:Hp) (Q:List (V×V)->Hp->Prop),Inv X pins IA H s->vw trs IA H Q ->
  wpAny (model X.prog X.w) X.A (evalPairs (pairTrees keys values X.env pos)) (fun vs s'=>∃ps H',Inv X pins IA H' s'/\VV ps vs/\Q ps H') X.xe s
theorem DT {X:Cx}{pos:Pos}:Dd X pos [] [] []:=fun pins s IA H Q I h=>pairTrees_nil_walk ⟨[],H,I,.nil,h⟩
theorem BO {X:Cx}{pos:Pos}{k v:Expr}{ks:List (Option Expr)}{vs:List Expr}{tk tv:TE}{trs:List (TE×TE)}(hk:PE X k tk)(hv:PE X v tv)(hr:Dd X pos ks vs trs) :
  Dd X pos (some k::ks) (v::vs) ((tk,tv)::trs):=fun pins s IA H Q I h =>
 pairTrees_cons_walk (aX (hk pins s IA H _ I h) fun u s1 ⟨x,H1,I1,rx,q1⟩=>aX (hv pins s1 IA H1 _ I1 q1) fun w2 s2 ⟨y,H2,I2,ry,q2⟩ =>
  aX (hr pins s2 IA H2 _ I2 q2) fun ws s3 ⟨ps,H3,I3,rel,q3⟩=>⟨(x,y)::ps,H3,I3,.cons ⟨rx,ry⟩ rel,q3⟩)
structure M2 (X:Cx) (o:Expr) (m:Str) (apos:Pos) (e f:Expr) (cpos:Pos):Prop where
 base:attributeBase o m X.env (eval o X.env)=eval o X.env
 b8:((backTo cpos (starEach [e,f] X.env)).all (fun x=>!x.1)&&(backToKw cpos (keywordEach [] X.env)).all (fun x=>x.1.isSome)
  && decide (([e,f]:List Expr).length+([]:List Keyword).length+(if ([]:List Keyword).isEmpty then 0 else 1)<30))=true
 line:(apos.endLine == cpos.line)=true
 trees:backTo cpos (starEach [e,f] X.env)=[(false,eval e X.env),(false,eval f X.env)]
def G0 (H:Hp)(a:Addr):Prop:=(∃kvs,Rd H a (.dK kvs))\/∃kvs,Rd H a (.dT kvs)
theorem Fv {X:Cx}{pins:List (Addr×Obj)}{IA : St}{H:Hp}{s:Shared}{a:Addr}(I:Inv X pins IA H s)(d:G0 H a) :
  s.TypeIs (.ref a) "dict" /\ (∀b,Value.ref a=.ref b->∃ob,s.heap.get? b=some ob/\ob.dict=none)/\(a == sysModules)=false:=by
 rcases d with ⟨kvs,e⟩ | ⟨kvs,e⟩
 ·obtain⟨_,hd,vs,_,dd⟩:=qJ I.aN e
  refine⟨dd.typeIs,fun b q=>?_,hd⟩
  cases q
  obtain⟨ob,_,_,h1,h2,_⟩:=dd
  exact⟨ob,h1,h2.2.1⟩
 ·obtain⟨_,hd,xs,_,dd⟩:=qL I.aN e
  refine⟨dd.typeIs,fun b q=>?_,hd⟩
  cases q
  obtain⟨ob,_,_,h1,h2,_⟩:=dd
  exact⟨ob,h1,h2.2.1⟩
section
variable {X:Cx}{pins:List (Addr×Obj)}{IA : St}{H:Hp}{s:Shared}{a:Addr}{y d:V}{u r:Value}{o:Option V}{A:Around}{E:Value->Shared->Prop}
theorem Fw {Q:Value->Shared->Prop}(hu:A.units+1<cLine)(I:Inv X pins IA H s)(g:ie H a y o)(ry:RelV y u)(rd:RelV d r)(h:∀w' s',Inv X pins IA H s'->RelV (o.getD d) w'->Q w' s') :
  wpAny (model X.prog X.w) A (call (.builtin "dict.get") [.ref a,u,r]) Q E s:=by
 rcases g with ⟨kvs,k,e,ey,l⟩ | ⟨kvs,k,b,e,ey,eb,l⟩
 ·subst ey
  obtain⟨z,hd,vs,rel,dd⟩:=qJ I.aN e
  refine call_meetsIn PySem.F.slot_dict_get dd.typeIs PySem.F.entry_dict_get (PySem.F.args_dict_get_3 _ _ _) (meets_dict_get_default (aT X.prog X.w) a (qI ry) hd r) ⟨_,dd.mapOf,h _ _ (I.tok _) ?_⟩
  rw [l]
  exact (rel.val k).getD rd
 ·subst ey
  cases (show u=Value.ref b from ry)
  obtain⟨z,hd,xs,rel,dd⟩:=qL I.aN e
  refine call_meetsIn PySem.F.slot_dict_get dd.typeIs PySem.F.entry_dict_get (PySem.F.args_dict_get_3 _ _ _) (meetsH_dict_get_default (tupleKind (aT X.prog X.w)) a b hd r) ⟨tupleKind_room_in1 hu,k,xs,qK I.aN eb,dd,h _ _ (I.tok _) ?_⟩
  rw [l]
  exact (rel.val k).getD rd
end
section
variable {X:Cx}{o e f:Expr}{apos cpos:Pos}{td ty tx:TE}
end
section
variable {X:Cx}{pins:List (Addr×Obj)}{IA : St}{H:Hp}{s:Shared}{a:Addr}{kvs:List (Key×V)}{A:Around}{E:Value->Shared->Prop}
end
section
variable {X:Cx}{pins:List (Addr×Obj)}{IA : St}{H:Hp}{s:Shared}{a:Addr}{y:V}{u:Value}{A:Around}{E:Value->Shared->Prop}
end
section
variable {X:Cx}
end
section
variable {κ : Type}[DecidableEq κ]
end
theorem aJ.bH {H:Hp}{v:V}{ds:List PyData}(h:aJ H v (.tuple ds)):∃p xs,v=.ref p/\H p=some (.tup xs)/\aP H xs ds:=by
 cases h with
 | tup e r=>exact⟨_,_,rfl,e,r⟩
theorem aJ.int_inv {H:Hp}{v:V}{i:Int}(h:aJ H v (.int i)):v=.int i:=by cases h;rfl
theorem aJ.str_inv {H:Hp}{v:V}{x:Str}(h:aJ H v (.str x)):v=.str x:=by cases h;rfl
theorem aP.cons_inv {H:Hp}{xs:List V}{d:PyData}{ds:List PyData}(h:aP H xs (d::ds)):∃x r,xs=x::r/\aJ H x d/\aP H r ds:=by
 cases h with
 | cons a b=>exact⟨_,_,rfl,a,b⟩
theorem aP.nil_inv {H:Hp}{xs:List V}(h:aP H xs []):xs=[]:=by cases h;rfl
theorem aP.get {H:Hp}:∀{xs:List V} {ds:List PyData} {i:Nat} {d:PyData},aP H xs ds->ds[i]?=some d->∃x,xs[i]?=some x/\aJ H x d
 | _,_,_,_,.nil,e=>by simp at e
 | _,_,0,_,.cons r _,e=>by
  simp at e
  subst e
  exact⟨_,rfl,r⟩
 | _,_,i+1,d,.cons _ t,e=>by
  obtain⟨x,h1,h2⟩:=aP.get (i:=i) (d:=d) t (by simpa using e)
  exact⟨x,by simpa using h1,h2⟩
def oA:cH->List V
 | .put x n=>[.str "put",.str x,.int n]
 | .copy x y=>[.str "copy",.str x,.str y]
 | .add x n=>[.str "add",.str x,.int n]
 | .read x=>[.str "read",.str x]
 | .tell x=>[.str "tell",.str x]
def fo:End->List V
 | .stop=>[.str "stop"]
 | .go p=>[.str "go",.int p]
 | .cC b x n p q=>[.str (wT b),.str x,.int n,.int p,.int q]
theorem sD {H:Hp}{v:V}{d:cH}(h:aJ H v (cu d)):∃p,v=.ref p/\H p=some (.tup (oA d)):=by
  cases d <;> (
    obtain⟨p,xs,rfl,e,r⟩:=aJ.bH h
    obtain⟨x1,r1,rfl,h1,r⟩:=r.cons_inv
    obtain⟨x2,r2,rfl,h2,r⟩:=r.cons_inv
    first
      | (obtain⟨x3,r3,rfl,h3,r⟩:=r.cons_inv
         have z:=r.nil_inv
         subst z
         refine⟨p,rfl,?_⟩
         first
           | rw [e,h1.str_inv,h2.str_inv,h3.int_inv];rfl
           | rw [e,h1.str_inv,h2.str_inv,h3.str_inv];rfl)
      | (have z:=r.nil_inv
         subst z
         refine⟨p,rfl,?_⟩
         rw [e,h1.str_inv,h2.str_inv];rfl))
theorem Ae {H:Hp}{v:V}{e:End}(h:aJ H v (eX e)):∃p,v=.ref p/\H p=some (.tup (fo e)):=by
 cases e with
 | stop =>
  obtain⟨p,xs,rfl,e,r⟩:=aJ.bH h
  obtain⟨x1,r1,rfl,h1,r⟩:=r.cons_inv
  have z:=r.nil_inv
  subst z
  exact⟨p,rfl,by rw [e,h1.str_inv];rfl⟩
 | go q =>
  obtain⟨p,xs,rfl,e,r⟩:=aJ.bH h
  obtain⟨x1,r1,rfl,h1,r⟩:=r.cons_inv
  obtain⟨x2,r2,rfl,h2,r⟩:=r.cons_inv
  have z:=r.nil_inv
  subst z
  exact⟨p,rfl,by rw [e,h1.str_inv,h2.int_inv];rfl⟩
 | cC b x n q q' =>
  obtain⟨p,xs,rfl,e,r⟩:=aJ.bH h
  obtain⟨x1,r1,rfl,h1,r⟩:=r.cons_inv
  obtain⟨x2,r2,rfl,h2,r⟩:=r.cons_inv
  obtain⟨x3,r3,rfl,h3,r⟩:=r.cons_inv
  obtain⟨x4,r4,rfl,h4,r⟩:=r.cons_inv
  obtain⟨x5,r5,rfl,h5,r⟩:=r.cons_inv
  have z:=r.nil_inv
  subst z
  exact⟨p,rfl,by rw [e,h1.str_inv,h2.str_inv,h3.int_inv,h4.int_inv,h5.int_inv];rfl⟩
theorem iE {H:Hp}{v:V}{ps:List Piece}{i:Nat}{ds:List cH}{e:End}(h:aJ H v (bM ps))(hi:ps[i]?=some (ds,e)) :
  ∃p xs pc da ea vs,v=.ref p/\H p=some (.tup xs)/\xs.length=ps.length/\xs[i]?=some (.ref pc)/\H pc=some (.tup [.ref da,.ref ea])/\H da=some (.tup vs)/\aP H vs (ds.map cu)/\H ea=some (.tup (fo e)):=by
 obtain⟨p,xs,rfl,e1,r⟩:=aJ.bH h
 have hl:=r.len
 obtain⟨x,hx,rx⟩:=r.get (i:=i) (d:=bK (ds,e)) (by rw [IZ,hi];rfl)
 obtain⟨pc,ys,rfl,e2,r2⟩:=aJ.bH rx
 obtain⟨y1,t1,rfl,q1,r2⟩:=r2.cons_inv
 obtain⟨y2,t2,rfl,q2,r2⟩:=r2.cons_inv
 have z:=r2.nil_inv
 subst z
 obtain⟨da,vs,rfl,e3,r3⟩:=aJ.bH q1
 obtain⟨ea,rfl,e4⟩:=Ae q2
 exact⟨p,xs,pc,da,ea,vs,rfl,e1,by rw [hl,ID],hx,e2,e3,r3,e4⟩
theorem qM {n:Nat}(h:n<=1000000):n<sizeLine:=Ko h (by decide)
theorem bP {c:Bool}{A B:Prop}(hc:c=false)(h:B):if c=true then A else B:=by subst hc;exact bO h
theorem dn {c:Bool}{A B:Prop}(hc:c=true)(h:A):if c=true then A else B:=by subst hc;exact bJ h
inductive yM (Q:VK) (a:Addr) (y:V) (z:V) (H3:Hp):Prop
 | mk (o v:_) (_:ie H3 a y o) (_:o.getD z=v) (_:Q v H3)
inductive yN (ty:TE) (tx:TE) (IA : St) (Q:VK) (x:V) (H1:Hp):Prop
 | mk (a:_) (_:x=.ref a) (_:G0 H1 a) (_:ty IA H1 fun y H2=>tx IA H2 fun z H3=>yM Q a y z H3)
def DU (td ty tx:TE):TE:=fun IA H Q=>td IA H fun x H1=>yN ty tx IA Q x H1
theorem iY {X:Cx} {o e f:Expr} {apos cpos:Pos} {td ty tx:TE} (hu:X.A.units+1<cLine) (ho:PE X o td) (he:PE X e ty) (hf:PE X f tx) (m:M2 X o "get" apos e f cpos):PE X (.Call (.Attribute o "get" apos) [e,f] [] cpos) (DU td ty tx):=by
 intro pins s IA H Q I h
 refine wpAny_Call_method m.base m.b8 m.line PySem.F.plainAttrs_dict PySem.F.slot_dict_get PySem.F.type_dict_get (aX (ho pins s IA H _ I h) fun u s1 ⟨x,H1,I1,rx,a,ex,d,q1⟩=>?_)
 subst ex
 obtain rfl:u=Value.ref a:=rx
 obtain⟨t1,t2,_⟩:=Fv I1 d
 refine⟨t1,t2,?_⟩
 rw [m.trees]
 refine Calls.callWith_builtin rfl (Calls.evalArgs_plain (Calls.spliced_cons (aX (he pins s1 IA H1 _ I1 q1) fun iv s2 ⟨y,H2,I2,ry,q2⟩ =>
  Calls.spliced_cons (aX (hf pins s2 IA H2 _ I2 q2) fun fv s3 ⟨z,H3,I3,rz,ov,v,g,ev,q3⟩=>Calls.spliced_nil ?_))))
 exact Fw hu I3 g ry rz fun w' s4 I4 rw'=>⟨v,H3,I4,by rw [<-ev];exact rw',q3⟩
structure RS where
 Gz:Nat
 place:Nat
 w:Str->Int
 taken:Nat
 told:List Int
 word:Str
 BP:List Nat
def DW (kvs:List (Key×V))(w:Str->Int):Prop:=∀x:Str,(dm kvs (Sum.inr x:Key)).getD (.int 0)=.int (w x)
def qN (ps:List Piece):Prop:=∀p∈ps,match p.2 with
 | .stop=>True
 | .go q=>q<ps.length
 | .cC _ _ _ q r=>q<ps.length/\r<ps.length
theorem bY.Fx {xs:List Str}{m:Nat}{ps:List Piece}(h:bY xs m ps):qN ps:=fun p hp=>by
 have:=h.ends p hp
 cases e:p.2 with
 | stop=>exact True.intro
 | go q=>rw [e] at this;exact this
 | cC b x n q r=>rw [e] at this;exact⟨this.2.2.1,this.2.2.2⟩
def vO:Option Int->V
 | none=>.bg
 | some i=>.int i
def vx:Option Int->Option Int->Prop
 | some a,some b=>a<=b
 | _,_=>True
def jm (n:Int)(lo hi:Option Int):Bool:=(match lo with | none=>true | some a=>decide (a<=n))&&(match hi with | none=>true | some a=>decide (n<=a))
abbrev Rs:=Option (Option Int×Option Int)
def lJ (hi:Option Int)(n:Int):Int:=match hi with | none=>n-1 | some h=>if n-1<h then n-1 else h
def lK (lo:Option Int)(n:Int):Int:=match lo with | none=>n | some l=>if n > l then n else l
def ig (lo hi:Option Int)(n:Int):Rs :=
 match lo with | none=>some (none,some (lJ hi n)) | some l=>if lJ hi n<l then none else some (some l,some (lJ hi n))
def jn (lo hi:Option Int)(n:Int):Rs :=
 match hi with | none=>some (some (lK lo n),none) | some h=>if h<lK lo n then none else some (some (lK lo n),some h)
def vy (lo hi:Option Int)(n:Int):Rs:=if jm n lo hi=true then some (some n,some n) else none
def lL (lo hi:Option Int)(n:Int):Rs:=if lo=some n then (if hi=some n then none else some (some (n+1),hi)) else if hi=some n then some (lo,some (n-1)) else some (lo,hi)
def qO (lo hi:Option Int)(n:Int)(side:Bool):Rs:=if side=true then ig lo hi n else jn lo hi n
def Af (lo hi:Option Int)(n:Int)(side:Bool):Rs:=if side=true then vy lo hi n else lL lo hi n
def ij (w:Str)(lo hi:Option Int)(n:Int)(side:Bool):Rs:=if w = "less" then qO lo hi n side else Af lo hi n side
theorem BQ {w:Str}{lo hi:Option Int}{n:Int}(le:vx lo hi)(h1:ij w lo hi n true=none)(h2:ij w lo hi n false=none):False:=by
 unfold ij at h1 h2
 by_cases hw:w = "less"
 ·rw [if_pos hw] at h1 h2
  simp only [qO,if_true,JT,if_false] at h1 h2
  unfold ig lJ at h1
  unfold jn lK at h2
  cases lo <;> cases hi <;> simp only [reduceCtorEq] at h1 h2
  rename_i l h
  simp only [vx] at le
  by_cases c1:n-1<h
  ·simp only [c1,if_true] at h1
   by_cases c2:n-1<l
   ·by_cases c3:n > l
    ·simp only [c3,if_true] at h2
     split at h2
     ·omega
     ·cases h2
    ·simp only [c3,if_false] at h2
     split at h2
     ·omega
     ·cases h2
   ·rw [if_neg c2] at h1;cases h1
  ·simp only [c1,if_false] at h1
   split at h1
   ·omega
   ·cases h1
 ·rw [if_neg hw] at h1 h2
  simp only [Af,if_true,JT,if_false] at h1 h2
  unfold lL at h2
  by_cases c1:lo=some n
  ·rw [if_pos c1] at h2
   by_cases c2:hi=some n
   ·subst c1;subst c2
    simp [vy,jm] at h1
   ·rw [if_neg c2] at h2;cases h2
  ·rw [if_neg c1] at h2
   split at h2 <;> cases h2
def RV (H:Hp)(v:V)(r:Rs):Prop:=match r with
 | none=>v=.bg
 | some (a,b)=>∃p,v=.ref p/\H p=some (.tup [vO a,vO b])
theorem RV.same {H H':Hp}{v:V}{r:Rs}(h:RV H v r)(s:af H H'):RV H' v r:=by
 cases r with
 | none=>exact h
 | some ab =>
  obtain⟨p,e,h⟩:=h
  exact⟨p,e,s _ _ h⟩
theorem RV.put {H:Hp}{v:V}{r:Rs}{l:Addr}{xs:List V}{o:HO}(h:RV H v r)(hl:H l=some (.lst xs)):RV (upd H l o) v r:=by
 cases r with
 | none=>exact h
 | some ab =>
  obtain⟨p,e,h⟩:=h
  exact⟨p,e,by rw [ao (bU h hl (by intro z;cases z))];exact h⟩
def dO:Option Int->PyData
 | none=>.none
 | some i=>.int i
theorem Fy {H:Hp}(o:Option Int):aJ H (vO o) (dO o):=by
 cases o with
 | none=>exact .bg
 | some i=>exact .int i
theorem af.put {H H':Hp}{l:Addr}{o:HO}(s:af H H')(n:H l=none):af H (upd H' l o):=fun c u e=>by rw [ao (ar e n)];exact s c u e
theorem Ag:decide (V.str "less" = V.str "less")=true:=by decide +kernel
theorem qP {lo:Option Int}{n:Int}:decide (vO lo=V.int n)=decide (lo=some n):=by
 cases lo with
 | none=>rfl
 | some i =>
  by_cases h:i=n
  ·subst h;simp [vO]
  ·have h1:¬(V.int i=V.int n):=fun z=>h (V.int.inj z)
   have h2:¬((some i:Option Int)=some n):=fun z=>h (IU.inj z)
   rw [show vO (some i)=V.int i from rfl,decide_eq_false h1,decide_eq_false h2]
theorem m4 {lo:Option Int}{n:Int}:Br (vO lo) (V.int n)=true:=by cases lo <;> rfl
structure iF (P:Program) (w:World) (K:IC) (mg:Str->Option Value) (base:Heap) (C:Addr) (m:Str) (k:Nat) (ps:List Str) (sp:Sp):Prop where
 cl:jG K C
 ex:∃f fd,aW P w K mg base bQ k f fd ps sp/\Meth K C m f/\Binds K fd ps []
structure vz (P:Program) (w:World) (K:IC) (mg:Str->Option Value) (base:Heap) (C:Addr) (x:Str) (k:Nat) (ps:List Str) (sp:Sp):Prop where
 ex:∃f fd,aW P w K mg base bQ k f fd ps sp/\Mk K C f/\mg x=some (.ref C)/\Binds K fd ps []
section
variable {X:Cx}{C:Addr}{m x:Str}{k:Nat}{ps:List Str}{sp:Sp}{oe e:Expr}{es:List Expr}{ta:TE}{t:TA}{p pos apos:Pos}
theorem kO {pl:Sem Bool}(o:iF X.prog X.w X.K X.mg X.base C m k ps sp)(he:PE X oe ta)(hr:cG k X.A)(ha:PA X (e::es) t)
  (hst:starEach (e::es) X.env=(false,eval e X.env)::starEach es X.env:=by rfl) (hpl:(backTo pos (starEach es X.env)).any (·.1)=false:=by rfl)
  (ht:eval (.Call (.Attribute oe m apos) (e::es) [] pos) X.env=(do
   let ov <-eval oe X.env
   standAt apos.atName
   let (f,first) <-holding [ov] (getMethod ov m pl)
   callWith pos f first (backTo pos (starEach (e::es) X.env)) (backToKw pos (keywordEach [] X.env))):=by rfl) :
  PE X (.Call (.Attribute oe m apos) (e::es) [] pos) (uV C m sp [] E0 ta t):=by
 obtain⟨f,fd,F,hm,hb⟩:=o.ex
 exact DH he o.cl hm F hr hb .nil uW ha hst hpl ht
theorem gK {pl:Sem Bool}(o:iF X.prog X.w X.K X.mg X.base C m k ps sp)(he:PE X oe ta)(hr:cG k X.A)
  (ht:eval (.Call (.Attribute oe m apos) [] [] pos) X.env=(do
   let ov <-eval oe X.env
   standAt apos.atName
   let (f,first) <-holding [ov] (getMethod ov m pl)
   callWith pos f first (backTo pos (starEach [] X.env)) (backToKw pos (keywordEach [] X.env))):=by rfl) :
  PE X (.Call (.Attribute oe m apos) [] [] pos) (uV C m sp [] E0 ta mU):=by
 obtain⟨f,fd,F,hm,hb⟩:=o.ex
 exact Bz he o.cl hm F hr hb .nil uW ht
theorem kP (o:vz X.prog X.w X.K X.mg X.base C x k ps sp)(hr:cG (k+1) X.A)(hg:Gl X x)(ha:PA X (e::es) t)
  (hdb:(x == ("__debug__" : Str))=false:=by decide) (he:starEach (e::es) X.env=(false,eval e X.env)::starEach es X.env:=by rfl)
  (hpl:(backTo pos (starEach es X.env)).any (·.1)=false:=by rfl):PE X (.Call (.Name x p) (e::es) [] pos) (yC C sp [] E0 t):=by
 obtain⟨f,fd,F,M,hm,hb⟩:=o.ex
 exact xo M F hr hg hm hb .nil uW ha hdb he hpl
end
theorem oB:bootBuiltins "dict" = some (.type "dict"):=by decide +kernel
theorem pP {k:Str}{v:V}{l:List (Str×V)}:((k,v)::l).lookup k=some v:=by simp [JE]
theorem eB {k k':Str}{v:V}{l:List (Str×V)}{o:Option V}(h:¬k=k')(e:l.lookup k=o):((k',v)::l).lookup k=o:=by
 rw [JK,beq_false_of_ne h];exact e
theorem yO {k:Str}{v u:V}{l:List (Str×V)}:cF k v ((k,u)::l)=(k,v)::l:=by simp only [cF,if_true]
theorem eY {k k':Str}{v u:V}{l l':List (Str×V)}(h:¬k' = k)(e:cF k v l=l'):cF k v ((k',u)::l)=(k',u)::l':=by simp only [cF,if_neg h,e]
theorem pQ {k:Str}{v:V}:cF k v []=[(k,v)]:=rfl
def Ih (a0 a1 a2 a3 a4 a5 a6 a7:V):List (Str×V):=[("pieces",a0),("passed",a1),("place",a2),("worths",a3),("numbers",a4),("taken",a5),("spoken",a6),("over",a7)]
section
variable {a0 a1 a2 a3 a4 a5 a6 a7 z:V}
end
structure dA (C:Addr) (H:Hp) (p pl d nl sl:Addr) (plv:V) (nums:List Int) (S:RS) (m:Nat):Prop where
 ob:∃dx,H p=some (.ins C dx (Ih plv (.ref pl) (.int S.place) (.ref d) (.ref nl) (.int S.taken) (.ref sl) (.bl (decide (S.word = "stop")))))
 Ii:H pl=some (.lst (S.BP.map fun k=>V.int (k:Nat)))
 last:∃xs,S.BP=xs++[S.Gz]
 dict:∃kvs,H d=some (.dK kvs)/\DW kvs S.w/\kvs.length<=m
 nums:H nl=some (.lst (nums.map V.int))
 Ij:H sl=some (.lst (S.told.map V.int))
 ne:pl≠nl/\pl≠sl/\nl≠sl
 b8:S.told.length<=m/\S.BP.length<=m+1
section
variable {C:Addr}{H H':Hp}{p pl d nl sl:Addr}{plv:V}{nums:List Int}{S:RS}{m:Nat}
end
end L2
namespace HT
open PySem PyProof.Rows PySem.Spec
section
variable {prog:Program}{w:World}{A:Around}{E:Value->Shared->Prop}{s:Shared}
theorem oP {t sl:Addr}{items:Array Value}{vl vu:Value}{lo hi:Option Int}{Q:Value->Shared->Prop}(ht:IsTup s.heap t items)(hs:s.heap.IsSliceOf sl vl vu .none)(pl:IsPart vl lo)(pu:IsPart vu hi)
  (hw:b6 items.size 0 lo=0/\b6 items.size items.size hi=items.size) (h:Q (.ref t) s):wpAny (model prog w) A (getItem (.ref t) (.ref sl)) Q E s:=by
 obtain⟨os,hos,hcs,hds⟩:=id hs
 have hTs:s.TypeIs (.ref sl) "slice" := ⟨os,hos,hcs⟩
 unfold getItem
 try with_reducible refine Ls ?_
 first | refine Lo (Lq ?_) | skip
 refine Lo (L3 ht.typeIs (by decide) ?_)
 refine Lo (wpAny_callSpecial?_slot (name:=Str.ofString "__getitem__") ht.typeIs PyProof.Rows.slot_tuple_getitem
  (Lu PyProof.Rows.slot_tuple_getitem ht.typeIs entry_tuple_getitem ?_ (args_tuple_getitem _ _)))
 show wpAny _ _ (Builtin.Tuple.tupleItemsOf (.ref t) >>= _) _ _ s
 refine Lo (tupleItemsOf_ ht ?_)
 refine Lo (LK hTs ?_)
 rw [if_pos (by decide)]
 refine Lo (jH hs pl pu ?_)
 have hno:((((b6 items.size 0 lo:Nat):Int) == 0&&(1:Int) == 1&&(b6 items.size items.size hi-b6 items.size 0 lo) == items.size)=true):=by
  rw [hw.1,hw.2]
  simp
 show wpAny _ _ (if (((b6 items.size 0 lo:Nat):Int) == 0&&(1:Int) == 1&&(b6 items.size items.size hi-b6 items.size 0 lo) == items.size)=true then _ else _) _ _ s
 rw [if_pos hno]
 refine Lo ?_
 unfold Builtin.Tuple.tupleIsExact
 refine Lo (LK ht.typeIs (Lq ?_))
 rw [if_pos (by decide)]
 refine Lo (LA ?_)
 first
  | exact Lq ⟨_,rfl,Lq h⟩
  | exact Lo (Lq (Lq ⟨_,rfl,Lq h⟩))
  | exact Lq (Lq ⟨_,rfl,Lq h⟩)
end
end HT
namespace L2
open PySem PySem.Spec PyProof.Rows
section
variable {X:Cx}
inductive GB (K:IC) (x:V) (lo:Option Int) (hi:Option Int) (H:Hp) (Q:VK):Prop
 | mk (a xs:_) (_:x=.ref a) (_:aw K H a xs) (_:((HT.b6 xs.length 0 lo=0/\HT.b6 xs.length xs.length hi=xs.length)->Q (.ref a) H)) (_:(¬(HT.b6 xs.length 0 lo=0/\HT.b6 xs.length xs.length hi=xs.length)->∀p,H p=none->Q (.ref p) (upd H p (.tup (eW xs lo hi)))))
theorem kQ:C2 X (GB X.K):=by
 intro pins s IA H x v vl vu lo hi sl Q I rx hs pl pu h
 obtain⟨a,xs,rfl,hx,q1,q2⟩:=h
 by_cases hw:HT.b6 xs.length 0 lo=0/\HT.b6 xs.length xs.length hi=xs.length
 ·cases rx
  obtain⟨its,r,ht,hz⟩:=I.tuple hx
  have hlen:its.toArray.size=xs.length:=by rw [IX];exact r.length.symm
  refine⟨"tuple",_,PyProof.Rows.slot_tuple_getitem.lookup,ht.typeIs,?_⟩
  exact HT.oP ht hs pl pu (by rw [hlen];exact hw) ⟨.ref a,H,I,rfl,q1 hw⟩
 ·exact Fb pins s IA H (.ref a) v vl vu lo hi sl Q I rx hs pl pu ⟨a,xs,rfl,hx,hw,q2 hw⟩
end
theorem o3 {P:Program}{w:World}{x:Str}{v:Value}(h:(aT P w).is (Sum.inr x) v=true):∃t,v=.str x t:=by
 cases v with
 | str y t =>
  have:y=x:=by simpa [aT,iR,Value.isStrOf] using h
  exact⟨t,by rw [this]⟩
 | _=>simp [aT,iR,Value.isStrOf] at h
theorem qQ:∀{vs:List Value} {ks:List Str},vs.length=ks.length->(∀(j:Nat) (v:Value) (x:Str),vs[j]?=some v->ks[j]?=some x->∃t,v=.str x t)->StrsAre vs ks
 | [],[],_,_=>.nil
 | v::vs,x::ks,hl,h=>by
  obtain⟨t,rfl⟩:=h 0 v x rfl rfl
  exact .cons x t (qQ (by simpa using hl) fun j v' x' h1 h2=>h (j+1) v' x' (by simpa using h1) (by simpa using h2))
 | [],_::_,hl,_=>by simp at hl
 | _::_,[],hl,_=>by simp at hl
section
variable {prog:Program}{w:World}{A:Around}{E:Value->Shared->Prop}{s:Shared}
open PySem.Calls PySem.W in
theorem gather {T:String}{r d:Addr}{n:Nat}{P:Nat->Value->Prop}{OK:Heap->Prop}{G:List Value->Shared->Prop}(src:KdlSrc prog w T r d n P OK)(calm:A.handled=none)(ok:OK s.heap)(b8:n<=sizeLine)
  (fin:∀(g:Heap) (tk:Nat) (got:Array Value),(∀b o,s.heap.get? b=some o->g.get? b=some o)->ItemsOf P got n->s.heap.objs.size<=g.objs.size->G got.toList { s with heap:=g,toks:=tk }) :
  wpAny (model prog w) A (collect (.ref r)) G E s:=by
 obtain⟨lt1,lt2⟩:=src.there _ ok
 unfold collect
 refine Lo (wpAny_runValue (Ly entry_proto_collect' ?_))
 rw [JM PySem.F.plain_proto_collect _]
 show wpAny _ A.in1 (newList [] >>= fun z=>again (.builtin "list.__iadd__" ⟨[z,.ref r],[]⟩)) _ _ s
 refine Lo (Lv (Lq ⟨plainId_quiet PySem.F.plain_list_iadd _,Ly entry_list_iadd' ?_⟩))
 rw [JM PySem.F.plain_list_iadd _]
 show wpAny _ A.in1 (Builtin.List.listExtendWith (.ref s.heap.objs.size) (.ref r) (.ref s.heap.objs.size)) _ _ _
 have made:(s.heap.push { cls:=.type "list",data:=.seq ([]:List Value).toArray }).get? s.heap.objs.size=some { cls:=.type "list",data:=.seq #[] }:=IK _ rfl
 have run:=kdl_extend (A:=A) (s:={ s with heap:=s.heap.push { cls:=.type "list",data:=.seq ([]:List Value).toArray } })
  (R:=fun (z:Result) (t:Shared)=>∃(g:Heap) (tk:Nat) (got:Array Value) (c:Nat),z=.ok (.ret (.ref s.heap.objs.size))/\t={ s with heap:=g,toks:=tk } /\
   (∀b o,s.heap.get? b=some o->g.get? b=some o)/\g.get? s.heap.objs.size=some { cls:=.type "list",dict:=none,data:=.seq got c,slots:=#[] }/\ItemsOf P got n)
  src calm (src.keep _ _ ok fun b _ o e=>II _ e) s.heap.objs.size (JB lt1) (JB lt2) (.ref s.heap.objs.size) 0 made
  (fun g tk got c kept at_ its=>⟨g,tk,got,c,rfl,rfl,fun b o e=>kept b o (IL (IG e)) (II _ e),at_,its⟩) b8
 refine Lr run (fun z t x=>?_) fun z t ⟨_,_,_,_,bad,_⟩=>by cases bad
 cases z with
 | done f =>
  obtain⟨g,tk,got,c,e,rfl,kept,at_,its⟩:=x
  cases e
  show wpAny _ A (load s.heap.objs.size >>= _) _ _ _
  exact Lo (wpAny_load at_ (Lq (fin g tk got kept its (Jo (IG at_)))))
 | again more =>
  refine⟨x.1,LB x.2 fun z' t' ⟨g,tk,got,c,e1,e2,kept,at_,its⟩=>?_⟩
  subst e1 e2
  show wpAny _ A (load s.heap.objs.size >>= _) _ _ _
  exact Lo (wpAny_load at_ (Lq (fin g tk got kept its (Jo (IG at_)))))
theorem vA {a:Addr}{kvs:List (Key×Value)}{ks:List Str}{Q:Value->Shared->Prop}(hh:A.handled=none)(lo:(a == sysModules)=false)(dd:s.heap.DictOf (aT prog w) a kvs)
  (hk:kvs.map (·.1)=ks.map Sum.inr) (h64:ks.length<64)
  (h:∀(h':Heap) (tk:Nat) (D:Addr) (out:Array Value) (ss':List Str) (e:Nat),(∀b o,s.heap.get? b=some o->h'.get? b=some o)->s.heap.objs.size<=D->h'.get? D=some { cls:=.type "list",data:=.seq out e } ->
   StrsAre out.toList ss'->ss'.Perm ks->sortedS ss' = true->Q (.ref D) { s with heap:=h',toks:=tk }) :
  wpAny (model prog w) A (call (.builtin "sorted") [.ref a]) Q E s:=by
 refine Calls.call_function_entry kind_sorted plain_sorted entry_sorted (args_sorted1 _) ?_
 unfold Builtin.«sorted»
 refine Lo (m:=checkCount "sorted" 1 1 _) (Lq ?_)
 obtain⟨ep,hat⟩:=dd.dictAt
 have hlk:kvs.length=ks.length:=by have:=congrArg JX hk;simpa using this
 have hs:sizeLine=16777216\/64<=sizeLine:=.inr (by decide)
 have hz:kvs.length<=sizeLine:=by rw [hlk];exact IQ (Jo h64) (by decide)
 refine Lo (gather (A:=A.in1) (PySem.W.kdl_dict (knd:=aT prog w) (kvs:=kvs) (ep:=ep) lo) hh hat hz fun h' tk acc hkeep hacc hsz=>?_)
 have hl:acc.toList.length=ks.length:=by rw [JA,hacc.1,hlk]
 have hS:StrsAre acc.toList ks:=qQ hl fun j v x h1 h2=>by
  obtain⟨k,y,e1,e2⟩:=hacc.2 j v (by rw [<-KN];exact h1)
  have e3:(kvs.map (·.1))[j]?=some k:=by rw [IZ,e1];rfl
  rw [hk,IZ,h2] at e3
  cases (IU.inj e3)
  exact o3 e2
 refine Lo (wpAny_newList ?_ (by rw [hl];exact IQ (Jo h64) (by decide)))
 have hoL:(h'.push (seqObj "list" acc.toList.toArray 0)).get? h'.objs.size=some (seqObj "list" acc.toList.toArray 0):=IK _ rfl
 refine Lo (Ls (Lu slot_list_sort ⟨_,hoL,rfl⟩ entry_list_sort (list_sort_treeK strKind_oneLt hoL hS.keysOf (fun v₁ v₂ rest e=>keyKind_strs (by rw [<-e];exact hS)) (by rw [hl];exact h64) fun st' a1 a2=>⟨_,rfl,?_⟩) (args_list_sort _)))
 obtain⟨ss',b1,b2,b3⟩:=sorted_out_str hS a1 a2
 obtain⟨e,he⟩:=sortedHeap_at (out:=(arrOf st').map (·.2)) hoL
 refine Lq ⟨_,rfl,h _ tk _ _ ss' e (fun b o ho=>?_) hsz he b1 b2 b3⟩
 have h1:=hkeep b o ho
 have hlt:=IG h1
 rw [sortedHeap_old (IL hlt) (by rw [size_push'];exact Jt hlt)]
 exact II _ h1
end
theorem oC:∀{us:List Value} {ys:List Str},StrsAre us ys->Vals (ys.map V.str) us
 | _,_,.nil=>.nil
 | _,_,.cons x t r=>.cons ⟨t,rfl⟩ (oC r)
section
variable {X:Cx}
theorem m5 (hc:X.calm=true):dU X (.builtin "sorted") (fun vs H Q=>∃(a:Addr) (kvs:List (Key×V)) (ks:List Str),vs=[.ref a]/\H a=some (.dK kvs)/\kvs.map (·.1)=ks.map Sum.inr/\ks.length<64 /\
  ∀(l:Addr) (ss:List Str),ss.Perm ks->sortedS ss=true->H l=none->Q (.ref l) (upd H l (.lst (ss.map V.str)))):=by
 intro pins s IA H xs us Q I r h
 obtain⟨a,kvs,ks,rfl,ha,hk,h64,q⟩:=h
 obtain⟨u,rfl,ru⟩:=vals1 r
 cases (show u=Value.ref a from ru)
 obtain⟨z,hd,vs,rel,dd⟩:=Dc I.aN ha
 refine vA (I.ok.hd hc) hd dd (by rw [<-rel.keys];exact hk) h64 fun h' tk D out ss' e hkeep hD he hS hp hs=>?_
 have hv:Vals (ss'.map V.str) out.toList:=oC hS
 refine⟨.ref D,_,I.laid (t':=tk) (o:=.lst (ss'.map V.str)) hkeep hD (show bN X.prog X.w _ h' _ (.lst (ss'.map V.str)) from ⟨?_,out.toList,e,hv,by simpa using he⟩),rfl,q D ss' hp hs (I.aN.fresh hD)⟩
 rw [ID,hp.length_eq]
 exact IQ (Jo h64) (by decide)
end
section
variable {X:Cx}
end
theorem sub_len {α : Type}[DecidableEq α]:∀{l m:List α},l.Nodup->(∀x∈l,x∈m)->l.length<=m.length
 | [],_,_,_=>Jc _
 | x::l,m,nd,h=>by
  rw [JQ] at nd
  have hx:=h x (IP ..)
  have h1:=sub_len (l:=l) (m:=m.erase x) nd.2 fun y hy=>(List.mem_erase_of_ne (fun z=>nd.1 (by rw [<-z];exact hy))).mpr (h y (IM _ hy))
  rw [List.length_erase_of_mem hx] at h1
  have h2:0<m.length:=List.length_pos_of_mem hx
  show l.length+1<=m.length
  omega
theorem gX:bootBuiltins "sorted" = some (.builtin "sorted"):=PyProof.Rows.boot_sorted
theorem tW {kvs:List (Key×V)}{k:Key}{v:V}:(putK kvs k v).map (·.1)=kvs.map (·.1)/\k∈kvs.map (·.1)\/(putK kvs k v).map (·.1)=kvs.map (·.1)++[k]/\¬k∈kvs.map (·.1):=by
 unfold putK
 by_cases h:(kvs.any fun kv=>decide (kv.1=k))=true
 ·rw [if_pos h]
  refine .inl ⟨?_,?_⟩
  ·rw [JN]
   refine KS fun p _=>?_
   show (if p.1=k then (p.1,v) else p).1=p.1
   split <;> rfl
  ·obtain⟨p,hp,he⟩:=List.any_eq_true.mp h
   exact IS.mpr ⟨p,hp,of_decide_eq_true he⟩
 ·rw [if_neg h]
  refine .inr ⟨by rw [IT];rfl,fun hm=>h ?_⟩
  obtain⟨p,hp,he⟩:=IS.mp hm
  exact List.any_eq_true.mpr ⟨p,hp,decide_eq_true he⟩
def eU:cH->Str
 | .put x _=>x
 | .copy x _=>x
 | .add x _=>x
 | .read x=>x
 | .tell x=>x
theorem vC (dd:cH):fG (oA dd) 1=some (.str (eU dd)):=by cases dd <;> exact en
theorem cB.name {xs:List Str}{dd:cH}(h:cB xs dd):eU dd∈xs:=by
 cases dd with
 | put x n=>exact h.1
 | copy x y=>exact h.1
 | add x n=>exact h.1
 | read x=>exact h
 | tell x=>exact h
section
variable {X:Cx}
end
section
variable {a0 a1 z:V}
end
section
variable {C D:Addr}{H H':Hp}{wp p pl d nl sl:Addr}{plv:V}{nums:List Int}{S:RS}{m:Nat}
end
section
variable (C D:Addr)
end
section
variable {C D:Addr}{H H':Hp}{wp p pl d nl sl st d2 tl bl np:Addr}{plv:V}{nums nums':List Int}{S S':RS}{m m':Nat}
end
section
variable (C D:Addr)
end
section
variable {C D:Addr}{H0 H H1 H2:Hp}{wp p pl d nl sl st st' d2 tl bl np b:Addr}{plv:V}{nums more:List Int}{S S':RS}{m m':Nat}
end
section
variable {X:Cx}
inductive GC  (x:V) (y:V) (H:Hp) (Q:VK):Prop
 | mk (a b xs ys:_) (_:x=.ref a) (_:y=.ref b) (_:H a=some (.tup xs)) (_:H b=some (.tup ys)) (_:xs.length+ys.length<=sizeLine) (_:∀t H',H' t=some (.tup (xs++ys))->af H H'->Q (.ref t) H')
theorem kR:dZ X (binaryOp .Add) GC:=by
 intro pins s IA H x y v u Q I rx ry h
 obtain⟨a,b,xs,ys,rfl,rfl,ha,hb,hz,q⟩:=h
 cases rx
 cases ry
 obtain⟨its,r1,p1,_⟩:=I.tuple (aw.of ha)
 obtain⟨its2,r2,p2,_⟩:=I.tuple (aw.of hb)
 by_cases hx:xs=[]
 ·subst hx
  have hi:its=[]:=r1.si.mpr rfl
  subst hi
  obtain⟨⟨cls,dd,data,sl⟩,ho,hc,n,hd⟩:=id p1
  obtain⟨⟨cls2,dd2,data2,sl2⟩,ho2,hc2,n2,hd2⟩:=id p2
  simp only at hc hd hc2 hd2
  subst hc hd hc2 hd2
  exact concat_meets ⟨_,ho,rfl⟩ ⟨_,ho2,rfl⟩ noFill_tuple_add seq_tuple_add PySem.F.slot_tuple_add PySem.F.entry_tuple_add (PySem.F.args_tuple_add_2 _ _)
   (tuple_addW0 a b [].toArray its2.toArray n n2 dd dd2 sl sl2 (by simp)) ⟨ho,ho2,⟨.ref b,H,I,rfl,q b H hb (af.refl H)⟩⟩
 ·refine HT.DI p1 p2 (fun z=>hx (r1.si.mp z)) (fun z=>⟨.ref a,H,I,rfl,q a H (by rw [r2.si.mp z,JP];exact ha) (af.refl H)⟩) (fun z=>?_) (by rw [<-r1.length,<-r2.length];exact hz)
  have fr:=I.aN.fresh (a:=s.heap.objs.size) (IF _)
  refine⟨.ref s.heap.objs.size,_,I.laid (t':=s.toks) (o:=.tup (xs++ys)) (fun b ob q=>II _ q) (IF _) ?_,rfl,q _ _ aa (af.new fr)⟩
  exact⟨by rw [IJ];exact hz,_,r1.append r2,⟨_,IK _ rfl,rfl,_,rfl,rfl⟩⟩
end
section
variable {ps:List Piece}{nums more:List Int}{S S0:RS}{m n:Nat}
end
section
variable {ps:List Piece}{nums more:List Int}{S:RS}{m n:Nat}
end
inductive Call where
 | hand (ns:List Int)
 | go (n:Nat)
structure Fz where
 S:RS
 nums:List Int
 m:Nat
structure WA where
 wp:Addr
 p:Addr
 pl:Addr
 d:Addr
 nl:Addr
 sl:Addr
section
variable {C D:Addr}{H H' H0:Hp}{x y:WA}{pv pv':V}{s s':Fz}{c:Addr}{o:HO}
end
section
variable (C D:Addr)
end
section
variable {C D:Addr}{H0 H H1:Hp}{w0 w1 w2:WA}{wl cl nb:Addr}{plv ov:V}{x0 x1 x2 x':Fz}{n0 n1 n':List Int}{vs:List V}{cs:List Call}
end
structure BR (K:IC) (mg:Str->Option Value) (nm:Str) (a:Addr) (D:List (Str×Addr)):Prop where
 qR:mg nm=some (.ref a)
 lk:∃es ep,K.lookup a=some ⟨.type "dict",none,.dict es ep,#[]⟩/\KTD.Rows (fun d v=>v=Value.ref d) es.toList D
section
variable {prog:Program}{w:World}{A:Around}{E:Value->Shared->Prop}{s:Shared}
theorem BS {a d:Addr}{o:Obj}{es:Array DictEntry}{ep:Nat}{k:Str}{t:Tok}{D:List (Str×Addr)}{Q:Option Value->Shared->Prop}(ho:s.heap.get? a=some o)(hd:o.data=.dict es ep)
  (hr:KTD.Rows (fun d v=>v=Value.ref d) es.toList D) (ha:KTD.datumAt k D=some d) (q:Q (some (.ref d)) { s with toks:=s.toks+1 }):wpAny (model prog w) A (dictGet a (.str k t)) Q E s:=by
 unfold dictGet
 try with_reducible refine Ls ?_
 refine Lo (L0 (Lo (KTD.kt_dictFind_strs (s:={ s with toks:=s.toks+1 }) ho hd (by have:=hr.exact;obtain⟨l⟩:=es;simpa using this) ?_)))
 have hq:Q (findBy (fun k v=>v.isStr k) es k) { s with toks:=s.toks+1 }:=by
  obtain⟨v,hv,rfl⟩:=hr.find_some ha
  have e:findBy (fun k v=>v.isStr k) es k=some (.ref d):=by
   rw [<-hv]
   obtain⟨l⟩:=es
   simp [findBy]
  rw [e]
  exact q
 rw [findBy_of_findIdx?] at hq
 cases hi:es.findIdx? fun e=>e.key.isStr k with
 | some i=>rw [hi] at hq;exact Lo (wpAny_dictEntries (s:={ s with toks:=s.toks+1 }) ho hd (Lq hq))
 | none=>rw [hi] at hq;exact Lq hq
theorem BU {a d:Addr} {o:Obj} {es:Array DictEntry} {ep:Nat} {k:Str} {t:Tok} {D:List (Str×Addr)} {Q:Value->Shared->Prop} (ty:s.TypeIs (.ref a) "dict") (ho:s.heap.get? a=some o) (hd:o.data=.dict es ep)
  (hr:KTD.Rows (fun d v=>v=Value.ref d) es.toList D) (ha:KTD.datumAt k D=some d) (q:Q (.ref d) { s with toks:=s.toks+1 }):wpAny (model prog w) A (getItem (.ref a) (.str k t)) Q E s:=by
 unfold getItem
 try with_reducible refine Ls ?_
 refine Lo (L3 ty (by decide) (Lo (wpAny_callSpecial?_slot (name:=Str.ofString "__getitem__") ty slot_dict_getitem (Lu slot_dict_getitem ty entry_dict_getitem ?_ (args_dict_getitem _ _)))))
 show wpAny _ _ (dictGet a (.str k t) >>= fun _=>_) _ _ s
 exact Lo (BS ho hd hr ha (Lq ⟨_,rfl,Lq q⟩))
end
section
variable {X:Cx}
theorem sE {nm:Str} {a:Addr} {D:List (Str×Addr)} {i:Expr} {p pos:Pos} {ty:TE} (G:BR X.K X.mg nm a D) (hg:Gl X nm) (hi:PE X i ty) (hs:yL i) (hdb:(nm == ("__debug__" : Str))=false:=by decide) :
  PE X (.Subscript (.Name nm p) i pos) (fun IA H Q=>ty IA H fun y H1=>∃x d,y=.str x/\KTD.datumAt x D=some d/\Q (.ref d) H1):=by
 intro pins s IA H Q I h
 obtain⟨es,ep,hk,hr⟩:=G.lk
 refine sC PySem.F.slot_dict_getitem.lookup hs (aX (dC (v:=.ref a) hg G.qR rfl hdb pins s IA H (fun x H1=>x=.ref a/\ty IA H1 fun y H1=>∃x d,y=.str x/\KTD.datumAt x D=some d/\Q (.ref d) H1) I ⟨rfl,h⟩) fun u s1 ⟨x,H1,I1,rx,ex,q1⟩=>?_)
 subst ex
 obtain rfl:u=Value.ref a:=rx
 refine aX (hi pins s1 IA H1 _ I1 q1) fun iv s2 ⟨y,H2,I2,ry,k,d,ey,hd,q2⟩=>?_
 subst ey
 obtain⟨t,rfl⟩:=(show ∃t,iv=Value.str k t from ry)
 have ho:=I2.fY a _ hk
 exact⟨⟨_,ho,rfl⟩,BU ⟨_,ho,rfl⟩ ho rfl hr hd ⟨.ref d,H2,I2.tok _,rfl,q2⟩⟩
end
def pick (w:Str)(xs:List V)(ks:List Str):List V:=((xs.zip ks).filter fun p=>decide (p.2=w)).map (·.1)
def j1 (w:Str)(xs:List V)(ks:List Str)(i:Nat):List V:=(((xs.zip ks).take i).filter fun p=>decide (p.2=w)).map (·.1)
theorem yQ {w:Str}{xs:List V}{ks:List Str}{i:Nat}{x:V}{k:Str}(hx:xs[i]?=some x)(hk:ks[i]?=some k):j1 w xs ks (i+1)=j1 w xs ks i++(if k=w then [x] else []):=by
 have hz:(xs.zip ks)[i]?=some (x,k):=by rw [List.getElem?_zip_eq_some];exact⟨hx,hk⟩
 unfold j1
 rw [Ju,hz,Kg,IT]
 congr 1
 by_cases h:k=w
 ·rw [if_pos h];simp [h]
 ·rw [if_neg h];simp [h]
theorem Ah {w:Str}{xs:List V}{ks:List Str}:j1 w xs ks (min xs.length (ks.map V.str).length)=pick w xs ks:=by
 unfold j1 pick
 rw [ID,Lj (by rw [List.length_zip];exact IF _)]
theorem Ai {w:Str}{xs:List V}{ks:List Str}{i:Nat}:(j1 w xs ks i).length<=i:=by
 unfold j1
 rw [ID]
 exact IQ (J3 ..) (by rw [Jm];exact Nat.min_le_left ..)
theorem aw.same {K:IC}{H H':Hp}{a:Addr}{xs:List V}(h:aw K H a xs)(s:af H H'):aw K H' a xs:=by
 rcases h with h | h
 ·rcases h with h | h
  ·exact .inl (.inl (s _ _ h))
  ·obtain⟨b,hb⟩:=h
   exact .inl (.inr ⟨b,s _ _ hb⟩)
 ·exact .inr h
inductive sF (K:IC) (vs:List V) (H:Hp) (Q:VK) (_:XK):Prop
 | mk (t s:Addr) (v0:V) (xs:List V) (ks:List Str) (w:Str) (_:vs=[.ref t,.ref s,.str w]) (_:H t=some (.tup (v0::xs))) (_:aw K H s (ks.map V.str)) (_:xs.length<=1000) (_:∀l H',H' l=some (.lst (pick w xs ks))->af H H'->Q (.ref l) H')
def KTup (K:IC)(a:Addr)(ks:List Str):Prop:=∃(o:Obj) (its:Array Value) (n:Nat),K.lookup a=some o/\o.cls=.type "tuple" /\ o.data=.seq its n/\its.size<=sizeLine/\Vals (ks.map V.str) its.toList
structure vD (K:IC) (mg:Str->Option Value) (aE s0 s1 s2 s3:Addr):Prop where
 tab:BR K mg "END_PARTS" aE [("stop",s0),("go",s1),("less",s2),("is",s3)]
 q0:KTup K s0 []
 q1:KTup K s1 ["piece"]
 q2:KTup K s2 ["name", "number", "piece", "piece"]
 q3:KTup K s3 ["name", "number", "piece", "piece"]
def br:End->List Nat
 | .stop=>[]
 | .go p=>[p]
 | .cC _ _ _ p q=>[p,q]
def kE:End->List Str
 | .stop=>[]
 | .go _=>["piece"]
 | .cC ..=>["name", "number", "piece", "piece"]
def wE:End->Str
 | .stop => "stop"
 | .go _ => "go"
 | .cC b ..=>wT b
theorem Aj (e:End):∃xs,fo e=.str (wE e)::xs/\xs.length<=1000/\pick "piece" xs (kE e)=(br e).map fun k=>V.int (k:Nat):=by
 cases e with
 | stop=>exact⟨[],rfl,by decide,rfl⟩
 | go p=>exact⟨_,rfl,by show 1<=1000;decide,by simp [pick,kE,br]⟩
 | cC b x n p q =>
  refine⟨_,rfl,by show 4<=1000;decide,?_⟩
  have h1:¬("name" : Str) = "piece" := by decide +kernel
  have h2:¬("number" : Str) = "piece" := by decide +kernel
  simp [pick,kE,br,h1,h2]
theorem vD.at_ {K:IC} {mg:Str->Option Value} {aE s0 s1 s2 s3:Addr} (G:vD K mg aE s0 s1 s2 s3) (e:End):∃s,KTD.datumAt (wE e) [(("stop" : Str),s0),("go",s1),("less",s2),("is",s3)]=some s/\KTup K s (kE e):=by
 have hit:∀{k:Str} {d:Addr} {D:List (Str×Addr)},KTD.datumAt k ((k,d)::D)=some d:=fun {k d D}=>by
  show (if decide (k=k)=true then some d else KTD.datumAt k D)=some d
  rw [if_pos (decide_eq_true rfl)]
 have miss:∀{k x:Str} {d:Addr} {D:List (Str×Addr)} {o:Option Addr},¬k=x->KTD.datumAt k D=o->KTD.datumAt k ((x,d)::D)=o:=fun {k x d D o} h e=>by
  show (if decide (k=x)=true then some d else KTD.datumAt k D)=o
  rw [if_neg (by rw [decide_eq_false h];decide)]
  exact e
 cases e with
 | stop=>exact⟨s0,hit,G.q0⟩
 | go p=>exact⟨s1,miss (show ¬(("go" : Str) = "stop") by decide +kernel) hit,G.q1⟩
 | cC b x n p q =>
  cases b with
  | true=>exact⟨s2,miss (show ¬(("less" : Str) = "stop") by decide +kernel) (miss (show ¬(("less" : Str) = "go") by decide +kernel) hit),G.q2⟩
  | false=>exact⟨s3,miss (show ¬(("is" : Str) = "stop") by decide +kernel) (miss (show ¬(("is" : Str) = "go") by decide +kernel) (miss (show ¬(("is" : Str) = "less") by decide +kernel) hit)),G.q3⟩
inductive kT  (vs:List V) (H:Hp) (Q:VK) (_:XK):Prop
 | mk (ea:Addr) (e:End) (_:vs=[.ref ea]) (_:H ea=some (.tup (fo e))) (_:∀t H',H' t=some (.tup ((br e).map fun k=>V.int (k:Nat)))->af H H'->Q (.ref t) H')
end L2
namespace LS
open PySem
def Up (xs:Array Nat):Prop:=∀(i j:Nat) (a b:Nat),i<j->xs[i]?=some a->xs[j]?=some b->a<b
theorem BW {xs:Array Nat}{j:Nat}(up:Up xs):∀(fuel lo hi:Nat),hi-lo<=fuel->lo<=hi->hi<=xs.size ->
  (∀i a,i<lo->xs[i]?=some a->a<j)->(∀i a,hi<=i->xs[i]?=some a->j<=a) ->
  (∀i a,i<SetTable.below.go xs j fuel lo hi->xs[i]?=some a->a<j)/\(∀i a,SetTable.below.go xs j fuel lo hi<=i->xs[i]?=some a->j<=a)/\SetTable.below.go xs j fuel lo hi<=xs.size:=by
 intro fuel
 induction fuel with
 | zero =>
  intro lo hi h1 h2 h3 h4 h5
  have e:lo=hi:=by omega
  subst e
  unfold SetTable.below.go
  exact⟨h4,h5,h3⟩
 | succ f ih =>
  intro lo hi h1 h2 h3 h4 h5
  unfold SetTable.below.go
  by_cases hl:lo<hi
  ·rw [if_pos hl]
   dsimp only
   have hm:(lo+hi) / 2<hi:=by omega
   have hm2:lo<=(lo+hi) / 2:=by omega
   generalize (lo+hi) / 2=mid at hm hm2
   have hs:mid<xs.size:=by omega
   have hg:xs[mid]?=some xs[mid]:=by simp [hs]
   have hd:xs.getD mid j=xs[mid]:=by simp [Array.getD,hs]
   rw [hd]
   by_cases hc:xs[mid]<j
   ·rw [if_pos hc]
    refine ih (mid+1) hi (by omega) (by omega) h3 (fun i a hi' he=>?_) h5
    by_cases e:i=mid
    ·subst e;rw [hg] at he;cases he;exact hc
    ·have:=up i mid a _ (by omega) he hg;omega
   ·rw [if_neg hc]
    refine ih lo mid (by omega) hm2 (by omega) h4 (fun i a hi' he=>?_)
    by_cases e:i=mid
    ·subst e;rw [hg] at he;cases he;omega
    ·have:=up mid i _ a (by omega) hg he;omega
  ·rw [if_neg hl]
   have e:lo=hi:=by omega
   subst e
   exact⟨h4,h5,h3⟩
theorem pR {xs:Array Nat}{j:Nat}(up:Up xs) :
    (∀i a,i<SetTable.below xs j->xs[i]?=some a->a<j)/\(∀i a,SetTable.below xs j<=i->xs[i]?=some a->j<=a)/\SetTable.below xs j<=xs.size :=
  BW up xs.size 0 xs.size (by omega) (Jc _) (IF _) (fun _ _ h=>absurd h (Nat.not_lt_zero _)) (fun i a h e=>by
    have:xs[i]?=none:=by simp;omega
    rw [this] at e;cases e)
theorem vE {α : Type}{xs:Array α}{p:Nat}{x:α}(hp:p<=xs.size)(i:Nat) :
  (SetTable.insertAt xs p x)[i]?=if i<p then xs[i]? else if i=p then some x else xs[i-1]?:=by
 unfold SetTable.insertAt
 have h1:(xs.extract 0 p).size=p:=by simp;omega
 rw [Array.getElem?_append]
 have h2:((xs.extract 0 p).push x).size=p+1:=by simp;omega
 rw [h2]
 by_cases a:i<p
 ·rw [if_pos (by omega),if_pos a,Array.getElem?_push,h1,if_neg (by omega)]
  rw [Array.getElem?_extract]
  simp;omega
 ·rw [if_neg a]
  by_cases b:i=p
  ·subst b
   rw [if_pos (by omega),if_pos rfl,Array.getElem?_push,h1,if_pos rfl]
  ·rw [if_neg (by omega),if_neg b]
   rw [Array.getElem?_extract]
   have:p+(i-(p+1))=i-1:=by omega
   rw [this]
   by_cases c:i-1<xs.size
   ·simp;omega
   ·have:xs[i-1]?=none:=by simp;omega
    rw [this];simp
theorem Up.insert {xs:Array Nat}{j:Nat}(up:Up xs)(hn:xs[SetTable.below xs j]?≠some j):Up (SetTable.insertAt xs (SetTable.below xs j) j):=by
 obtain⟨h1,h2,h3⟩:=pR (j:=j) up
 generalize SetTable.below xs j=p at h1 h2 h3 hn
 have h2':∀i a,p<=i->xs[i]?=some a->j<a:=fun i a hi e=>by
  have q:=h2 i a hi e
  by_cases z:i=p
  ·subst z
   rcases Nat.lt_or_ge j a with c | c
   ·exact c
   ·have:a=j:=by omega
    subst this;exact absurd e hn
  ·have hps:p<xs.size:=by
    have:i<xs.size:=by
     rcases Nat.lt_or_ge i xs.size with c | c
     ·exact c
     ·have:xs[i]?=none:=by simp;omega
      rw [this] at e;cases e
    omega
   have e1:xs[p]?=some xs[p]:=by simp [hps]
   have q1:=h2 p _ (IF _) e1
   have q2:=up p i _ _ (by omega) e1 e
   omega
 intro a b x y hab ha hb
 rw [vE h3] at ha hb
 by_cases c1:a<p
 ·rw [if_pos c1] at ha
  by_cases d1:b<p
  ·rw [if_pos d1] at hb;exact up a b _ _ hab ha hb
  ·rw [if_neg d1] at hb
   by_cases d2:b=p
   ·rw [if_pos d2] at hb;cases hb;exact h1 a _ c1 ha
   ·rw [if_neg d2] at hb
    exact Kp (h1 a _ c1 ha) (h2' (b-1) _ (by omega) hb)
 ·rw [if_neg c1] at ha
  by_cases c2:a=p
  ·rw [if_pos c2] at ha;cases ha
   rw [if_neg (by omega),if_neg (by omega)] at hb
   exact h2' (b-1) _ (by omega) hb
  ·rw [if_neg c2] at ha
   rw [if_neg (by omega),if_neg (by omega)] at hb
   exact up (a-1) (b-1) _ _ (by omega) ha hb
def Rp (t:SetTable):Prop:=t.plain=true->Up t.place
theorem BX {t:SetTable}{f:Nat->Int}{h:Int}:∀(fuel:Nat) (p:SetTable.Probe) (j:Nat) (d:Option Nat),(∀x,p.dummy=some x->t.place[SetTable.below t.place x]?≠some x) ->
  SetTable.probe.go t f h fuel p=some (.empty j d)->t.place[SetTable.below t.place (d.getD j)]?≠some (d.getD j):=by
 intro fuel
 induction fuel with
 | zero=>intro p j d _ e;unfold SetTable.probe.go at e;cases e
 | succ n ih =>
  intro p j d hd e
  unfold SetTable.probe.go at e
  have adv:∀q:SetTable.Probe,(t.advance q).dummy=q.dummy:=fun q=>by unfold SetTable.advance;split <;> rfl
  cases hs:t.slot p.j with
  | empty =>
   rw [hs] at e
   dsimp only at e
   injection e with e
   injection e with e1 e2
   subst e1;subst e2
   unfold SetTable.slot at hs
   dsimp only at hs
   split at hs
   ·cases hs
   ·rename_i hne
    cases hdm:p.dummy with
    | none=>intro z;exact hne (by rw [show (none:Option Nat).getD p.j=p.j from rfl] at z;simpa using z)
    | some x=>exact hd x hdm
  | dummy =>
   rw [hs] at e
   dsimp only at e
   refine ih _ j d (fun x hx=>?_) e
   rw [adv] at hx
   injection hx with hx
   subst hx
   unfold SetTable.slot at hs
   dsimp only at hs
   split at hs
   ·cases hs
   ·rename_i hne
    intro z;exact hne (by simpa using z)
  | live i =>
   rw [hs] at e
   dsimp only at e
   split at e
   ·cases e
   ·exact ih _ j d (fun x hx=>hd x (by rw [adv] at hx;exact hx)) e
theorem vF {t:SetTable}{h:Int}{j:Nat}{b:Bool}(e:t.freeSlot h=some (j,b)):t.place[SetTable.below t.place j]?≠some j:=by
 unfold SetTable.freeSlot at e
 split at e
 ·rename_i j' d hp
  injection e with e
  injection e with e1 e2
  subst e1
  unfold SetTable.probe at hp
  exact BX _ _ _ _ (fun x hx=>by cases hx) hp
 ·cases e
theorem Rp.standIn (t:SetTable)(n:Nat):Rp (t.standIn n):=fun h=>by cases h
theorem Rp.layNew {t:SetTable}(r:Rp t)(es:Array (Int×Value))(h:Int)(x:Value):Rp (layNew t es h x).2.1/\(layNew t es h x).2.1.led=t.led:=by
 unfold PySem.layNew
 split
 ·rename_i j b e
  dsimp only
  unfold SetTable.orStandIn
  split
  ·refine⟨fun hp=>?_,rfl⟩
   exact (r hp).insert (vF e)
  ·exact⟨Rp.standIn _ _,rfl⟩
 ·exact⟨Rp.standIn _ _,rfl⟩
theorem BY (n:Nat)(f:Nat->Option Nat):Up (((Js n).filterMap fun j=>(f j).map fun k=>(j,k)).map (·.1)).toArray:=by
 have hs:J0 (· < ·) (((Js n).filterMap fun j=>(f j).map fun k=>(j,k)).map (·.1)):=by
  have hl:List.Sublist (((Js n).filterMap fun j=>(f j).map fun k=>(j,k)).map (·.1)) (Js n):=by
   generalize Js n=l
   induction l with
   | nil=>exact List.Sublist.refl _
   | cons a l ih =>
    rw [JW]
    cases e:f a with
    | none=>exact ih.cons a
    | some k=>exact ih.cons₂ a
  exact J0.sublist hl List.pairwise_lt_range
 intro i j a b hij ha hb
 rw [List.getElem?_toArray] at ha hb
 have hi:i<_:=(IY.mp ha).1
 have hj:j<_:=(IY.mp hb).1
 have:=List.pairwise_iff_getElem.mp hs i j hi hj hij
 rw [(IY.mp ha).2,(IY.mp hb).2] at this
 exact this
theorem Rp.relayAll (t:SetTable)(es:Array (Int×Value))(n:Nat):Rp (relayAll t es n).2.1/\(relayAll t es n).2.1.led=t.led:=by
 unfold PySem.relayAll
 split
 ·rename_i t' order e
  dsimp only
  split
  ·unfold SetTable.relaid SetTable.laid at e
   simp only [bind,Option.bind] at e
   split at e
   ·cases e
   ·rename_i owner _
    injection e with e
    injection e with e1 _
    subst e1
    exact⟨fun _=>BY _ _,rfl⟩
  ·exact⟨Rp.standIn _ _,rfl⟩
 ·exact⟨Rp.standIn _ _,rfl⟩
theorem yR {xs:Array Nat}(up:Up xs){i a:Nat}(e:xs[i]?=some a):SetTable.below xs (a+1)=i+1:=by
 obtain⟨h1,h2,h3⟩:=pR (j:=a+1) up
 have hi:i<xs.size:=(Array.getElem?_eq_some_iff.mp e).1
 rcases Nat.lt_trichotomy (SetTable.below xs (a+1)) (i+1) with c | c | c
 ·have:=h2 i a (by omega) e;omega
 ·exact c
 ·have hs:i+1<xs.size:=by omega
  have e':xs[i+1]?=some xs[i+1]:=by simp [hs]
  have q1:=h1 (i+1) _ c e'
  have q2:=up i (i+1) _ _ (by omega) e e'
  omega
theorem yS {xs:Array Nat}(up:Up xs):SetTable.below xs 0=0:=by
 obtain⟨h1,h2,h3⟩:=pR (j:=0) up
 rcases Nat.eq_zero_or_pos (SetTable.below xs 0) with c | c
 ·exact c
 ·have e':xs[0]?=some xs[0]:=by simp
  have:=h1 0 _ c e';omega
theorem Up.b8 {xs:Array Nat}(h:xs.size<=1):Up xs:=fun i j a b hij ha hb=>by
 have:=(Array.getElem?_eq_some_iff.mp hb).1;omega
open PySem.Spec PyProof.Rows
section
variable {prog:Program}{w:World}{K:Type}[DecidableEq K]{knd:KeyKind prog w K}
variable {A:Around}{E:Value->Shared->Prop}{s:Shared}
def Ent (knd:KeyKind prog w K)(e:Int×Value)(k:K):Prop:=knd.is k e.2=true/\e.1=knd.hash k/\e.2.scannable=true
structure dA (knd:KeyKind prog w K) (h:Heap) (a:Addr) (ks:List K) (o:Obj) (es:Array (Int×Value)) (ep:Nat) (t:SetTable):Prop where
 at_:h.get? a=some o
 ex:o.ExactSet
 data:o.data=.set es ep t
 ents:∃ls:List K,ls.Perm ks/\Paired (Ent knd) es.toList ls
 nd:ks.Nodup
 b8:es.size<scanBound
 fits:t.fits es.size=true
 led:t.led = !(w.params.followText "set-order")
 up:Rp t
def eF (knd:KeyKind prog w K)(h:Heap)(a:Addr)(ks:List K):Prop:=∃o es ep t,dA knd h a ks o es ep t
theorem kd {α β : Type}{F:α->β->Prop}:∀{l l':List α},l.Perm l'->∀{m':List β},Paired F l' m'->∃m,m.Perm m'/\Paired F l m:=by
 intro l l' p
 induction p with
 | nil=>intro m' h;exact⟨m',.refl _,h⟩
 | cons x p ih =>
  intro m' h
  cases h with
  | cons r t=>obtain⟨m,q,e⟩:=ih t;exact⟨_,q.cons _,.cons r e⟩
 | swap x y l =>
  intro m' h
  cases h with
  | cons r t=>cases t with
   | cons r' t'=>exact⟨_,.swap _ _ _,.cons r' (.cons r t')⟩
 | trans p q ih1 ih2 =>
  intro m' h
  obtain⟨m1,a1,b1⟩:=ih2 h
  obtain⟨m2,a2,b2⟩:=ih1 b1
  exact⟨m2,a2.trans a1,b2⟩
theorem jo {α β : Type}{F:α->β->Prop}:∀{l:List α} {m:List β},Paired F l m->(∀x∈l,∃y∈m,F x y)/\(∀y∈m,∃x∈l,F x y)
 | _,_,.nil=>⟨(fun _ h=>nomatch h),(fun _ h=>nomatch h)⟩
 | _,_,.cons r t=>by
  obtain⟨h1,h2⟩:=jo t
  refine⟨fun x hx=>?_,fun y hy=>?_⟩
  ·rcases IE.mp hx with rfl | hx
   ·exact⟨_,IP ..,r⟩
   ·obtain⟨y,hy,f⟩:=h1 x hx;exact⟨y,IM _ hy,f⟩
  ·rcases IE.mp hy with rfl | hy
   ·exact⟨_,IP ..,r⟩
   ·obtain⟨x,hx,f⟩:=h2 y hy;exact⟨x,IM _ hx,f⟩
theorem o4 {α β : Type}{F:α->β->Prop}{x:α}{y:β}(f:F x y):∀{l:List α} {m:List β},Paired F l m->Paired F (l++[x]) (m++[y])
 | _,_,.nil=>.cons f .nil
 | _,_,.cons r t=>.cons r (o4 f t)
variable {a:Addr}{ks:List K}{o:Obj}{es:Array (Int×Value)}{ep:Nat}{t:SetTable}{h h':Heap}
theorem dA.elems (S:dA knd h a ks o es ep t):ElemsOf knd es.toList:=fun e he=>by
 obtain⟨ls,_,p⟩:=S.ents
 obtain⟨k,_,f⟩:=(jo p).1 e he
 exact⟨⟨k,f.1,f.2.1⟩,f.2.2⟩
theorem dA.len (S:dA knd h a ks o es ep t):es.size=ks.length:=by
 obtain⟨ls,q,p⟩:=S.ents
 rw [<-JA,p.length,q.length_eq]
theorem dA.mem (S:dA knd h a ks o es ep t)(k:K):k∈ks↔∃e∈es.toList,knd.is k e.2=true:=by
 obtain⟨ls,q,p⟩:=S.ents
 rw [<-q.mem_iff]
 constructor
 ·intro hk
  obtain⟨e,he,f⟩:=(jo p).2 k hk
  exact⟨e,he,f.1⟩
 ·rintro⟨e,he,f⟩
  obtain⟨k',hk',f'⟩:=(jo p).1 e he
  rw [knd.inj e.2 k k' f f'.1];exact hk'
theorem dA.setOf (S:dA knd h a ks o es ep t):h.SetOf knd a (fun k=>decide (k∈ks)) ks.length :=
 ⟨o,es,ep,t,S.at_,S.ex,S.data,S.elems,fun k=>by rw [decide_eq_true_eq];exact S.mem k,S.b8,S.fits,S.len⟩
theorem dA.keep (S:dA knd h a ks o es ep t)(k:∀o,h.get? a=some o->h'.get? a=some o):dA knd h' a ks o es ep t:={ S with at_:=k _ S.at_ }
theorem eF.keep (S:eF knd h a ks)(k:∀o,h.get? a=some o->h'.get? a=some o):eF knd h' a ks:=let ⟨o,es,ep,t,S⟩:=S;⟨o,es,ep,t,S.keep k⟩
theorem eF.setOf (S:eF knd h a ks):h.SetOf knd a (fun k=>decide (k∈ks)) ks.length:=let ⟨_,_,_,_,S⟩:=S;S.setOf
theorem vG {o:Obj}{es es':Array (Int×Value)}{ep:Nat}{t t':SetTable}(hd:o.data=.set es ep t):Obj.putSet es' t' o={ o with data:=.set es' (ep+1) t' }:=putSet_of es' t' hd
theorem dA.store {es':Array (Int×Value)}{t':SetTable}{ks':List K}(S:dA knd h a ks o es ep t)(he:∃ls:List K,ls.Perm ks'/\Paired (Ent knd) es'.toList ls)(nd:ks'.Nodup)(b8:es'.size<scanBound)
  (fits:t'.fits es'.size=true) (led:t'.led=t.led) (up:Rp t'):dA knd (h.update a (Obj.putSet es' t')) a ks' { o with data:=.set es' (ep+1) t' } es' (ep+1) t' where
 at_:=by
  have q:=JJ (Obj.putSet es' t') S.at_ (by rw [vG S.data];rfl)
  rw [vG S.data] at q
  exact q
 ex:=S.ex
 data:=rfl
 ents:=he
 nd:=nd
 b8:=b8
 fits:=fits
 led:=led.trans S.led
 up:=up
theorem pS {g:Bool->Sem Unit}(hg:∀(b:Bool) (s₁ : Shared) (Q':Unit->Shared->Prop),Q' () s₁->wpAny (model prog w) A (g b) Q' E s₁){es1:Array (Int×Value)}{t2:SetTable}{ks':List K}
  (S:dA knd s.heap a ks o es ep t) (he:∃ls:List K,ls.Perm ks'/\Paired (Ent knd) es1.toList ls) (nd:ks'.Nodup) (b8:es1.size<scanBound) (fits:t2.fits es1.size=true) (led:t2.led=t.led) (up:Rp t2) {wd:Bool}
  {R:Option Bool->Shared->Prop} (q:∀h',Jk a s.heap h'->eF knd h' a ks'->R (some true) { s with heap:=h' }) :
  wpAny (model prog w) A (storeSet a es1 t2 >>= fun _=>if (!wd&&t2.tooFull)=true then g (relayAll t2 es1 (SetTable.grown es1.size)).2.2 >>= fun _ =>
   storeSet a (relayAll t2 es1 (SetTable.grown es1.size)).1 (relayAll t2 es1 (SetTable.grown es1.size)).2.1 >>= fun _=>pure (some true) else pure (some true)) R E s:=by
 refine Lo (wpAny_storeSet_of S.at_ S.data ?_ (fits_of_scanBound b8))
 have S1:=S.store he nd b8 fits led up
 have b1:=Jk.update s.heap a (Obj.putSet es1 t2)
 by_cases hc:(!wd&&t2.tooFull)=true
 ·rw [if_pos hc]
  have p1:=relayAll_perm t2 es1 (SetTable.grown es1.size)
  have p2:=relayAll_fits t2 es1 (SetTable.grown es1.size)
  have p3:=Rp.relayAll t2 es1 (SetTable.grown es1.size)
  generalize relayAll t2 es1 (SetTable.grown es1.size)=R3 at p1 p2 p3
  obtain⟨es3,t3,gv⟩:=R3
  obtain⟨ls,l1,l2⟩:=he
  obtain⟨ls3,l3,l4⟩:=kd p1 l2
  have z:es3.size=es1.size:=by rw [<-JA,p1.length_eq,JA]
  have few3:es3.size<scanBound:=by rw [z];exact b8
  refine Lo (hg _ _ _ ?_)
  refine Lo (wpAny_storeSet_of S1.at_ S1.data ?_ (fits_of_scanBound few3))
  exact Lq (q _ (b1.trans (Jk.update _ a _)) ⟨_,_,_,_,S1.store ⟨ls3,l3.trans l1,l4⟩ nd few3 p2 p3.2 p3.1⟩)
 ·rw [if_neg hc]
  exact Lq (q _ b1 ⟨_,_,_,_,S1⟩)
theorem yT {k:K}{x:Value}{Q:Bool->Shared->Prop}(hk:knd.is k x=true)(hsc:x.scannable=true)(S:eF knd s.heap a ks)(room:ks.length+1<scanBound)
  (q:∀h',Jk a s.heap h'->eF knd h' a (if k∈ks then ks else ks++[k])->Q (!decide (k∈ks)) { s with heap:=h' }) :
  wpAny (model prog w) A (setAddHashed a x (knd.hash k)) Q E s:=by
 obtain⟨o,es,ep,t,S⟩:=S
 have few1:es.size+1<scanBound:=by rw [S.len];exact room
 unfold setAddHashed setAddHashedIn
 refine Ls (Lo (LM S.at_ S.data S.fits ?_))
 dsimp only
 rw [byScan_of hsc S.b8 S.elems]
 simp only [↓reduceIte]
 unfold setAddByScan
 refine Lo (Lo (LA ?_))
 refine Lo (wpAny_setScan_of hk S.at_ S.data S.fits S.elems ?_)
 cases hr:List.findIdx? (fun e=>knd.is k e.2) es.toList with
 | some j =>
  obtain⟨hj,hpj,_⟩:=List.findIdx?_eq_some_iff_getElem.mp hr
  have hin:k∈ks:=(S.mem k).mpr ⟨es.toList[j],KO hj,hpj⟩
  refine Lq (Lq ?_)
  have:=q s.heap (Jk.refl a s.heap) (by rw [if_pos hin];exact⟨o,es,ep,t,S⟩)
  rw [decide_eq_true hin] at this
  exact this
 | none =>
  have hin:¬k∈ks:=fun z=>by
   obtain⟨e,he,hp⟩:=(S.mem k).mp z
   have:=List.findIdx?_eq_none_iff.mp hr e he
   rw [hp] at this;exact Bool.noConfusion this
  rw [if_neg hin,decide_eq_false hin] at q
  have p1:=layNew_perm t es (knd.hash k) x
  have p2:=layNew_fits t es (knd.hash k) x
  have p3:=S.up.layNew es (knd.hash k) x
  dsimp only
  generalize layNew t es (knd.hash k) x=L at p1 p2 p3 ⊢
  obtain⟨es1,t1,wd,gv⟩:=L
  dsimp only at p1 p2 p3 ⊢
  rw [Array.toList_push] at p1
  have hE:∃ls:List K,ls.Perm (ks++[k])/\Paired (Ent knd) es1.toList ls:=by
   obtain⟨ls,l1,l2⟩:=S.ents
   obtain⟨m,m1,m2⟩:=kd p1 (o4 (F:=Ent knd) (x:=(knd.hash k,x)) (y:=k) ⟨hk,rfl,hsc⟩ l2)
   exact⟨m,m1.trans (l1.append_right _),m2⟩
  have nd1:(ks++[k]).Nodup:=by
   rw [Kh]
   exact⟨S.nd,by simp,fun y hy z hz e=>hin (by rw [IH] at hz;rw [<-hz,<-e];exact hy)⟩
  have few2:es1.size<scanBound:=by rw [<-JA,p1.length_eq,IJ,JA];simpa using few1
  have gw:∀(b:Bool) (s₁ : Shared) (Q':Unit->Shared->Prop),Q' () s₁->wpAny (model prog w) A (match b with | true=>rule "set.scan.the-table-gave-way" | false=>pure ()) Q' E s₁:=fun b s₁ Q' hq=>by
   cases b
   ·exact Lq hq
   ·exact LA hq
  refine Lo (gw _ _ _ ?_)
  by_cases hp:t1.plain=true
  ·rw [if_pos hp]
   refine Lo ?_
   rw [hashByValue_scannable 8 hsc]
   refine Lq ?_
   by_cases hv:plainKind x=true
   ·rw [if_pos hv]
    exact pS gw S hE nd1 few2 p2 p3.2 p3.1 fun h' b Sk=>Lq (q h' b Sk)
   ·rw [if_neg hv]
    exact pS gw S hE nd1 few2 (SetTable.fits_plain_off p2) p3.2 (fun z=>by cases z) fun h' b Sk=>Lq (q h' b Sk)
  ·rw [if_neg hp]
   refine Lo (Lq ?_)
   rw [if_pos rfl]
   exact pS gw S hE nd1 few2 p2 p3.2 p3.1 fun h' b Sk=>Lq (q h' b Sk)
theorem m6 {led:Bool} (hl:led = !(w.params.followText "set-order")) (at_:h.get? a=some { cls:=.type "set",dict:=none,data:=.set #[] 0 (.fresh 0 0 led) }):eF knd h a [] :=
 ⟨_,#[],0,_,at_,⟨rfl,rfl,rfl⟩,rfl,⟨[],.refl _,.nil⟩,Kq,by decide,by rfl,hl,fun _=>Up.b8 (Jc _)⟩
end
theorem lM {α : Type}:∀(l:List α) (i:Nat) (h:i<l.length),(l[i]::l.eraseIdx i).Perm l
 | x::l,0,_=>.refl _
 | x::l,i+1,h=>by
  have hi:i<l.length:=by simpa using h
  have ih:=lM l i hi
  show (l[i]::x::l.eraseIdx i).Perm (x::l)
  exact (List.Perm.swap x _ _).trans (ih.cons x)
theorem Ak {α : Type}(f:Nat->Nat):∀(n k:Nat) (l:List α) (out:Array α),l.length=n->(pickOrder.go f n k l out).toList.Perm (out.toList++l):=by
 intro n
 induction n with
 | zero =>
  intro k l out hl
  have:l=[]:=List.length_eq_zero_iff.mp hl
  subst this
  unfold pickOrder.go
  simp
 | succ n ih =>
  intro k l out hl
  unfold pickOrder.go
  have hlt:f k % l.length<l.length:=Nat.mod_lt _ (by omega)
  rw [KW hlt]
  dsimp only
  refine (ih _ _ _ (by rw [List.length_eraseIdx_of_lt hlt];omega)).trans ?_
  rw [Array.toList_push,Jw]
  refine List.Perm.append_left _ ?_
  exact lM _ _ hlt
theorem iG {α : Type}(f:Nat->Nat)(xs:Array α):(pickOrder f xs).toList.Perm xs.toList:=by
 unfold pickOrder
 have:=Ak f xs.size 0 xs.toList #[] (by simp)
 simpa using this
section
variable {prog:Program}{w:World}{A:Around}{E:Value->Shared->Prop}{s:Shared}
theorem oE {Q:Bool->Shared->Prop} (q:Q (w.params.followText "set-order") s):wpAny (model prog w) A setsByText Q E s:=by
 unfold setsByText
 exact Lo (LW (Lq q))
theorem DV {src:Source}{n:Nat}{Q:Nat->Shared->Prop}(hn:n≠0)(q:∀(i:Nat) (d:_),i<n->Q i { s with drawn:=d }):wpAny (model prog w) A (choose src n) Q E s:=by
 intro Γ p hΓ
 show Sem.wp _ _ (.choose src n .pure) _ _ _ _
 rw [Sem.wp_choose]
 exact⟨hn,q _ _ (Nat.mod_lt _ (Nat.pos_of_ne_zero hn))⟩
theorem GF:∀(n:Nat) (xs:List Nat) (s:Shared) {Q:List Nat->Shared->Prop},xs.length=n->(∀(ys:List Nat) (d:_),ys.Perm xs->Q ys { s with drawn:=d })->wpAny (model prog w) A (drawOrder n xs) Q E s:=by
 intro n
 induction n with
 | zero =>
  intro xs s Q hl q
  have:xs=[]:=List.length_eq_zero_iff.mp hl
  subst this
  unfold drawOrder
  exact Lq (q [] s.drawn (.refl _))
 | succ n ih =>
  intro xs s Q hl q
  cases xs with
  | nil=>cases hl
  | cons x0 xs =>
   unfold drawOrder
   refine Lo (DV (by simp) fun i d hi=>?_)
   rw [KW hi]
   dsimp only
   refine Lo (ih _ _ (by rw [List.length_eraseIdx_of_lt hi];omega) fun ys d' hp=>?_)
   refine Lq (q _ d' ?_)
   exact (hp.cons _).trans (lM _ _ hi)
end
section
variable {prog:Program}{w:World}{K:Type}[DecidableEq K]{knd:KeyKind prog w K}
variable {A:Around}{E:Value->Shared->Prop}{s:Shared}{a:Addr}{ks:List K}{o:Obj}{es:Array (Int×Value)}{ep:Nat}{t:SetTable}
theorem Al {slot i:Nat} {Q:Option (Value×Nat)->Shared->Prop} (S:dA knd s.heap a ks o es ep t) (hb:w.params.followText "set-order" = true)
  (q:Q (((pickOrder (w.params.setOrder a ep) es)[i]?).map fun e=>(e.2,slot)) s):wpAny (model prog w) A (setNext a slot i ep) Q E s:=by
 unfold setNext
 refine Lo (LM S.at_ S.data S.fits ?_)
 dsimp only
 refine Lo (oE ?_)
 rw [hb,if_pos rfl]
 rw [if_neg (by simp)]
 unfold setWalk
 refine Lo (Lo (LM S.at_ S.data S.fits ?_))
 dsimp only
 refine Lo (oE ?_)
 rw [hb,if_pos rfl]
 exact Lo (LW (Lq (Lq q)))
theorem Am {slot i:Nat} {Q:Option (Value×Nat)->Shared->Prop} (S:dA knd s.heap a ks o es ep t) (hb:w.params.followText "set-order" = false) (hd:t.plain=true\/es.size<=1) (hs:SetTable.below t.place slot=i)
  (q:Q (match es[i]?,t.place[i]? with | some (_,x),some j=>some (x,j+1) | _,_=>none) s):wpAny (model prog w) A (setNext a slot i ep) Q E s:=by
 unfold setNext
 refine Lo (LM S.at_ S.data S.fits ?_)
 dsimp only
 refine Lo (oE ?_)
 rw [hb,if_neg Je]
 refine LX (fun h=>absurd (show (!t.plain&&decide (es.size > 1))=true from h) ?_) (fun _=>?_)
 ·rcases hd with h | h
  ·rw [h];simp
  ·rw [show decide (es.size > 1)=false by simp;omega];simp
 have hl:t.led=true:=by rw [S.led,hb];rfl
 refine Lo ?_
 show wpAny _ _ (if (!t.led&&!es.isEmpty)=true then unsupported "set:maker-not-led" else pure ()) _ _ s
 rw [hl,if_neg (by simp)]
 refine Lq ?_
 rw [hs]
 exact Lq q
theorem FA {i:Nat}{e:Int×Value}{Q:Value->Shared->Prop}(S:dA knd s.heap a ks o es ep t)(he:es[i]?=some e)(q:Q e.2 s):wpAny (model prog w) A (setNextDrawn a i ep) Q E s:=by
 unfold setNextDrawn
 refine Lo (LM S.at_ S.data S.fits ?_)
 dsimp only
 rw [if_neg (by simp)]
 rw [he]
 exact Lq q
theorem slot_next:Slot "set_iterator" "__next__" "set_iterator.__next__" :=
  Slot.of (owner := "set_iterator") (n := "__next__")
    (by rw [typeLookup_type,builtinLookup_eq_fast]
        kernel_rfl)
    (by decide +kernel)
    (by decide +kernel)
    (by decide +kernel)
    (by first
      | exact .inl (by decide +kernel)
      | exact .inr (by decide +kernel))
    (by rw [isSubtype_type]
        kernel_rfl)
theorem entry_next:entryFor table "set_iterator.__next__" = some Builtin.«set_iterator.__next__» :=
 entryFor_of_tree (by kernel_rfl)
theorem tX:Manifest.owners.lookup (String.ofList ['r','o','t','a','r','e','t','i','_','t','e','s'].reverse)=some Manifest.sig_set_iterator:=by
 kernel_rfl
theorem args_next (v:Value):argsOk "set_iterator.__next__" ⟨[v],[]⟩:=by
 unfold argsOk
 rw [signature?_of (id := "set_iterator.__next__") (n:=['_','_','t','x','e','n','_','_']) (o:=['r','o','t','a','r','e','t','i','_','t','e','s'])
  (by kernel_rfl) tX]
 kernel_rfl
end
def fc (h:Heap)(I:Addr)(first:Value)(i:Nat)(a:Addr)(n ep:Nat):Prop :=
 ∃oI,h.get? I=some oI/\oI.cls=.type "set_iterator" /\ oI.data=.fields #[first,.int i 0,.ref a,.int n 0,.int ep 0]
theorem fc.type {s:Shared} {I:Addr} {first:Value} {i:Nat} {a:Addr} {n ep:Nat} (h:fc s.heap I first i a n ep):s.TypeIs (.ref I) "set_iterator" := let ⟨o,e,c,_⟩:=h;⟨o,e,c⟩
theorem fc.keep {h h':Heap}{I:Addr}{first:Value}{i:Nat}{a:Addr}{n ep:Nat}(x:fc h I first i a n ep)(k:∀o,h.get? I=some o->h'.get? I=some o):fc h' I first i a n ep :=
 let ⟨o,e,c⟩:=x;⟨o,k _ e,c⟩
section
variable {prog:Program}{w:World}{K:Type}[DecidableEq K]{knd:KeyKind prog w K}
variable {A:Around}{E:Value->Shared->Prop}{s:Shared}{a I:Addr}{ks:List K}{o:Obj}{es:Array (Int×Value)}{ep:Nat}{t:SetTable}
theorem vH {slot nx i:Nat}{x:Value}{Q:Option Value->Shared->Prop}(hit:fc s.heap I (.int slot 0) i a es.size ep)(S:dA knd s.heap a ks o es ep t)
  (hn:∀(A:Around) (E:Value->Shared->Prop) (Q:Option (Value×Nat)->Shared->Prop),Q (some (x,nx)) s->wpAny (model prog w) A (setNext a slot i ep) Q E s)
  (q:∀h',fc h' I (.int nx 0) (i+1) a es.size ep->Jk I s.heap h'->Q (some x) { s with heap:=h' }):wpAny (model prog w) A (pyNext (.ref I)) Q E s:=by
 obtain⟨oI,ho,hc,hd⟩:=id hit
 unfold pyNext
 refine Lo (LD (wpAny_callSpecial?_slot (name:=Str.ofString "__next__") hit.type slot_next (Lu slot_next hit.type entry_next ?_ (args_next _))))
 unfold Builtin.«set_iterator.__next__»
 refine Lo (Lq ?_)
 refine Lo (LY ho hd ?_)
 dsimp only
 refine Lo (LP S.at_ S.data S.fits ?_)
 rw [if_neg (by simp)]
 simp only [JS]
 refine Lo (hn _ _ _ ?_)
 dsimp only
 refine Lo (LC ho hd (by simp) ?_)
 have d1:(Obj.mapFields (·.setIfInBounds 0 (rawInt (nx:Int))) oI).data=.fields #[.int nx 0,.int i 0,.ref a,.int es.size 0,.int ep 0]:=by rw [Obj.data_mapFields hd];simp [rawInt]
 have g1:=JJ (Obj.mapFields (·.setIfInBounds 0 (rawInt (nx:Int)))) ho (Obj.isFreed_of_fields (Obj.data_mapFields hd _))
 refine Lo (LC g1 d1 (by simp) ?_)
 refine Lq ⟨_,rfl,Lq (q _ ⟨_,JJ _ g1 (Obj.isFreed_of_fields (Obj.data_mapFields d1 _)),?_,?_⟩ ((Jk.update ..).trans (Jk.update ..)))⟩
 ·exact (Obj.cls_mapFields ..).trans ((Obj.cls_mapFields ..).trans hc)
 ·rw [Obj.data_mapFields d1];simp [rawInt]
theorem o5 {Q:Option Value->Shared->Prop}{s0:Shared}(hh:A.handled=none)(hk:∀b o,b≠I->s0.heap.get? b=some o->s.heap.get? b=some o)
  (q:∀h',(∀b o,b≠I->s0.heap.get? b=some o->h'.get? b=some o)->Q none { s with heap:=h' }) :
  wpAny (model prog w) A.in1 (newExc (.type "StopIteration") [] >>= fun e=>(raiseNew e:Sem Fin)) (fun _ _=>False)
   (fun e s'=>wpAny (model prog w) A (isInstance e (.type "StopIteration") >>= fun b=>if b=true then pure none else throw e) Q E s') s:=by
 refine Lo ?_
 simp only [newExc,newTuple]
 refine Lo (Lv ?_ (by size_fits))
 refine Lo (m:=firstArgMember _ _) (wpAny_of_eq (a:=Value.none) (by first | rfl | (simp only [firstArgMember];rfl)) ?_)
 refine Lv ?_ (by size_fits)
 simp only [raiseNew]
 refine Lo (wpAny_handled ?_)
 rw [show A.in1.handled=none from hh]
 refine Lo (Lq (wpAny_throw ?_))
 refine Lo (LO (T := "StopIteration") (b:=true) ⟨_,IK _ rfl,rfl⟩ isSubtype_stop ?_)
 exact Lq (q _ fun b o hb e=>II _ (II _ (hk b o hb e)))
theorem xH {slot i:Nat}{Q:Option Value->Shared->Prop}(hh:A.handled=none)(hit:fc s.heap I (.int slot 0) i a es.size ep)(S:dA knd s.heap a ks o es ep t)
  (hn:∀(A:Around) (E:Value->Shared->Prop) (Q:Option (Value×Nat)->Shared->Prop),Q none s->wpAny (model prog w) A (setNext a slot i ep) Q E s)
  (q:∀h',(∀b o,b≠I->s.heap.get? b=some o->h'.get? b=some o)->Q none { s with heap:=h' }):wpAny (model prog w) A (pyNext (.ref I)) Q E s:=by
 obtain⟨oI,ho,hc,hd⟩:=id hit
 unfold pyNext
 refine Lo (LD (wpAny_callSpecial?_slot (name:=Str.ofString "__next__") hit.type slot_next (Lu slot_next hit.type entry_next ?_ (args_next _))))
 unfold Builtin.«set_iterator.__next__»
 refine Lo (Lq ?_)
 refine Lo (LY ho hd ?_)
 dsimp only
 refine Lo (LP S.at_ S.data S.fits ?_)
 rw [if_neg (by simp)]
 simp only [JS]
 refine Lo (hn _ _ _ ?_)
 dsimp only
 refine Lo (LC ho hd (by simp) ?_)
 refine Lr (o5 (I:=I) (s0:=s) (E:=E) (Q:=Q) hh (fun b o hb e=>(JF _ _ (Ne.symm hb)).trans e) fun h' k=>q h' k) (fun _ _ z=>z.elim) fun e s' z=>z
theorem BZ {T:Addr}{i k:Nat}{oT:Obj}{its:Array Value}{c:Nat}{x:Int×Value}{Q:Option Value->Shared->Prop}(hit:fc s.heap I (.ref T) i a es.size ep)(S:dA knd s.heap a ks o es ep t)
  (hT:s.heap.get? T=some oT) (dT:oT.data=.seq its c) (hk:its[i]?=some (.int k 0)) (hx:es[k]?=some x)
  (q:∀h',fc h' I (.ref T) (i+1) a es.size ep->Jk I s.heap h'->Q (some x.2) { s with heap:=h' }):wpAny (model prog w) A (pyNext (.ref I)) Q E s:=by
 obtain⟨oI,ho,hc,hd⟩:=id hit
 unfold pyNext
 refine Lo (LD (wpAny_callSpecial?_slot (name:=Str.ofString "__next__") hit.type slot_next (Lu slot_next hit.type entry_next ?_ (args_next _))))
 unfold Builtin.«set_iterator.__next__»
 refine Lo (Lq ?_)
 refine Lo (LY ho hd ?_)
 dsimp only
 refine Lo (LP S.at_ S.data S.fits ?_)
 rw [if_neg (by simp)]
 refine Lo (Lx hT dT ?_)
 dsimp only
 simp only [JS]
 rw [hk]
 dsimp only
 simp only [JS]
 refine Lo (FA S hx ?_)
 refine Lo (LC ho hd (by simp) ?_)
 refine Lq ⟨_,rfl,Lq (q _ ⟨_,JJ _ ho (Obj.isFreed_of_fields (Obj.data_mapFields hd _)),?_,?_⟩ (Jk.update ..))⟩
 ·exact (Obj.cls_mapFields ..).trans hc
 ·rw [Obj.data_mapFields hd];simp [rawInt]
theorem DX {T:Addr}{i:Nat}{oT:Obj}{its:Array Value}{c:Nat}{Q:Option Value->Shared->Prop}(hh:A.handled=none)(hit:fc s.heap I (.ref T) i a es.size ep)(S:dA knd s.heap a ks o es ep t)
  (hT:s.heap.get? T=some oT) (dT:oT.data=.seq its c) (hk:its[i]?=none)
  (q:∀h',(∀b o,b≠I->s.heap.get? b=some o->h'.get? b=some o)->Q none { s with heap:=h' }):wpAny (model prog w) A (pyNext (.ref I)) Q E s:=by
 obtain⟨oI,ho,hc,hd⟩:=id hit
 unfold pyNext
 refine Lo (LD (wpAny_callSpecial?_slot (name:=Str.ofString "__next__") hit.type slot_next (Lu slot_next hit.type entry_next ?_ (args_next _))))
 unfold Builtin.«set_iterator.__next__»
 refine Lo (Lq ?_)
 refine Lo (LY ho hd ?_)
 dsimp only
 refine Lo (LP S.at_ S.data S.fits ?_)
 rw [if_neg (by simp)]
 refine Lo (Lx hT dT ?_)
 dsimp only
 simp only [JS]
 rw [hk]
 dsimp only
 refine Lo (LC ho hd (by simp) ?_)
 have d1:(Obj.mapFields (·.setIfInBounds 0 (rawInt 0)) oI).data=.fields #[.int 0 0,.int i 0,.ref a,.int es.size 0,.int ep 0]:=by rw [Obj.data_mapFields hd];simp [rawInt]
 have g1:=JJ (Obj.mapFields (·.setIfInBounds 0 (rawInt 0))) ho (Obj.isFreed_of_fields (Obj.data_mapFields hd _))
 refine Lo (LC g1 d1 (by simp) ?_)
 refine Lr (o5 (I:=I) (s0:=s) (E:=E) (Q:=Q) hh (fun b o hb e=>(JF _ _ (Ne.symm hb)).trans ((JF _ _ (Ne.symm hb)).trans e)) fun h' k=>q h' k) (fun _ _ z=>z.elim) fun e s' z=>z
theorem qS:Slot "set_iterator" "__iter__" "set_iterator.__iter__" :=
  Slot.of (owner := "set_iterator") (n := "__iter__")
    (by rw [typeLookup_type,builtinLookup_eq_fast]
        kernel_rfl)
    (by decide +kernel)
    (by decide +kernel)
    (by decide +kernel)
    (by first
      | exact .inl (by decide +kernel)
      | exact .inr (by decide +kernel))
    (by rw [isSubtype_type]
        kernel_rfl)
theorem wL:entryFor table "set_iterator.__iter__" = some Builtin.«dict_keyiterator.__iter__» :=
 entryFor_alias (id' := "dict_keyiterator.__iter__")
  (by kernel_rfl) rfl
  (by decide +kernel)
  (by kernel_rfl)
theorem yU (v:Value):argsOk "set_iterator.__iter__" ⟨[v],[]⟩:=by
 unfold argsOk
 rw [signature?_of (id := "set_iterator.__iter__") (n:=['_','_','r','e','t','i','_','_']) (o:=['r','o','t','a','r','e','t','i','_','t','e','s'])
  (by kernel_rfl) tX]
 kernel_rfl
theorem m7 {first:Value}{i:Nat}{Q:Value->Shared->Prop}{n:Nat}(hit:fc s.heap I first i a n ep)(q:Q (.ref I) s):wpAny (model prog w) A (pyIter (.ref I)) Q E s:=by
 refine wpAny_pyIter_slot hit.type qS (Lu qS hit.type wL ?_ (yU _))
 show wpAny _ _ (ret (.ref I)) _ _ s
 exact Lq ⟨_,rfl, "set_iterator",_,hit.type,slot_next.lookup,q⟩
theorem FC (hh:A.handled=none) (hI:a≠I) (hb:w.params.followText "set-order" = true) (nd:True) :
  Walks prog w A I [I,a] [I] es.size (fun i v=>∃e,(pickOrder (w.params.setOrder a ep) es)[i]?=some e/\e.2=v) (fun i h=>fc h I (.int 0 0) i a es.size ep/\dA knd h a ks o es ep t) where
 sub:=fun b hb=>by simp at hb;simp [hb]
 frame:=fun _ _ _ st k=>⟨st.1.keep fun o e=>k I (by simp) o e,st.2.keep fun o e=>k a (by simp) o e⟩
 item:=fun i s Q E hi st q=>by
  have z:(pickOrder (w.params.setOrder a ep) es).size=es.size:=by have:=(iG (w.params.setOrder a ep) es).length_eq;simpa using this
  have g:(pickOrder (w.params.setOrder a ep) es)[i]?=some ((pickOrder (w.params.setOrder a ep) es)[i]'(by omega)):=by simp
  refine vH (slot:=0) (nx:=0) st.1 st.2 (fun A E Q h=>Al st.2 hb (by rw [g];exact h)) fun h' hit' sb=>?_
  exact q _ h' s.toks ⟨_,g,rfl⟩ ⟨hit',st.2.keep fun o e=>sb.extBut a o hI e⟩ fun b o hb e=>sb.extBut b o (fun z=>hb (by simp [z])) e
 done:=fun s Q E st q=>by
  have z:(pickOrder (w.params.setOrder a ep) es).size=es.size:=by have:=(iG (w.params.setOrder a ep) es).length_eq;simpa using this
  refine xH (slot:=0) hh st.1 st.2 (fun A E Q h=>Al st.2 hb (by rw [Array.getElem?_eq_none (by omega)];exact h)) fun h' k=>?_
  exact q h' s.toks fun b o hb e=>k b o (fun z=>hb (by simp [z])) e
 self:=fun _ _ _ _ st q=>m7 st.1 q
theorem pT {α : Type}{es:Array α}:∀{ys:List Nat},(∀k∈ys,k<es.size)->∀i:Nat,(ys.filterMap fun k=>es[k]?)[i]?=(ys[i]?).bind fun k=>es[k]?
 | [],_,i=>by simp
 | y::ys,h,i=>by
  have hy:es[y]?=some (es[y]'(h y (IP ..))):=by simp
  rw [JW,hy]
  cases i with
  | zero=>simp
  | succ i =>
   have:=pT (ys:=ys) (fun k hk=>h k (IM _ hk)) i
   simpa using this
def qT (t:SetTable):Nat->Nat
 | 0=>0
 | i+1=>t.place.getD i 0+1
theorem qU {t:SetTable}(up:Up t.place){i:Nat}(h:i<=t.place.size):SetTable.below t.place (qT t i)=i:=by
 cases i with
 | zero=>exact yS up
 | succ i =>
  have hi:i<t.place.size:=by omega
  have e:t.place[i]?=some (t.place.getD i 0):=by simp [Array.getD,hi]
  exact yR up e
theorem FE (hh:A.handled=none) (hI:a≠I) (hb:w.params.followText "set-order" = false) (hd:t.plain=true\/es.size<=1) (hf:t.fits es.size=true) (hr:Rp t) :
  Walks prog w A I [I,a] [I] es.size (fun i v=>∃e,es[i]?=some e/\e.2=v) (fun i h=>fc h I (.int (qT t i) 0) i a es.size ep/\dA knd h a ks o es ep t) where
 sub:=fun b hb=>by simp at hb;simp [hb]
 frame:=fun _ _ _ st k=>⟨st.1.keep fun o e=>k I (by simp) o e,st.2.keep fun o e=>k a (by simp) o e⟩
 item:=fun i s Q E hi st q=>by
  have z:t.place.size=es.size:=by simp only [SetTable.fits,Jp,beq_iff_eq] at hf;exact hf.1
  have up:Up t.place:=by
   rcases hd with c | c
   ·exact hr c
   ·exact Up.b8 (by omega)
  have g:es[i]?=some es[i]:=by simp [hi]
  have gp:t.place[i]?=some (t.place.getD i 0):=by simp [Array.getD,z,hi]
  refine vH (slot:=qT t i) (nx:=qT t (i+1)) (x:=es[i].2) st.1 st.2 (fun A E Q h=>Am st.2 hb hd (qU up (by omega)) (by rw [g,gp];exact h)) fun h' hit' sb=>?_
  exact q _ h' s.toks ⟨_,g,rfl⟩ ⟨hit',st.2.keep fun o e=>sb.extBut a o hI e⟩ fun b o hb e=>sb.extBut b o (fun z=>hb (by simp [z])) e
 done:=fun s Q E st q=>by
  have z:t.place.size=es.size:=by simp only [SetTable.fits,Jp,beq_iff_eq] at hf;exact hf.1
  have up:Up t.place:=by
   rcases hd with c | c
   ·exact hr c
   ·exact Up.b8 (by omega)
  refine xH (slot:=qT t es.size) hh st.1 st.2 (fun A E Q h=>Am st.2 hb hd (qU up (by omega)) (by rw [Array.getElem?_eq_none (IF _)];exact h)) fun h' k=>?_
  exact q h' s.toks fun b o hb e=>k b o (fun z=>hb (by simp [z])) e
 self:=fun _ _ _ _ st q=>m7 st.1 q
theorem FF {T:Addr}{oT:Obj}{ys:List Nat}(hh:A.handled=none)(hI:a≠I)(hT:T≠I)(dT:oT.data=.seq (ys.map fun (i:Nat)=>rawInt i).toArray 0)(hp:ys.Perm (Js es.size)) :
  Walks prog w A I [I,a,T] [I] es.size (fun i v=>∃e,((ys.filterMap fun k=>es[k]?))[i]?=some e/\e.2=v) (fun i h=>fc h I (.ref T) i a es.size ep/\dA knd h a ks o es ep t/\h.get? T=some oT) where
 sub:=fun b hb=>by simp at hb;simp [hb]
 frame:=fun _ _ _ st k=>⟨st.1.keep fun o e=>k I (by simp) o e,st.2.1.keep fun o e=>k a (by simp) o e,k T (by simp) _ st.2.2⟩
 item:=fun i s Q E hi st q=>by
  have hl:ys.length=es.size:=by rw [hp.length_eq,KY]
  have hin:∀k∈ys,k<es.size:=fun k hk=>JV.mp (hp.mem_iff.mp hk)
  have h1:ys[i]?=some (ys[i]'(by omega)):=by simp
  have hk:ys[i]'(by omega)<es.size:=hin _ (KO _)
  generalize ys[i]'(by omega)=k at h1 hk
  have hx:es[k]?=some es[k]:=by simp [hk]
  have hv:(ys.filterMap fun k=>es[k]?)[i]?=some es[k]:=by
   rw [pT hin,h1]
   exact hx
  refine BZ (k:=k) (x:=es[k]) st.1 st.2.1 st.2.2 dT (by simp [h1,rawInt]) hx fun h' hit' sb=>?_
  exact q _ h' s.toks ⟨_,hv,rfl⟩ ⟨hit',st.2.1.keep fun o e=>sb.extBut a o hI e,sb.extBut T _ hT st.2.2⟩ fun b o hb e=>sb.extBut b o (fun z=>hb (by simp [z])) e
 done:=fun s Q E st q=>by
  have hl:ys.length=es.size:=by rw [hp.length_eq,KY]
  refine DX hh st.1 st.2.1 st.2.2 dT (by simp [hl]) fun h' k=>?_
  exact q h' s.toks fun b o hb e=>k b o (fun z=>hb (by simp [z])) e
 self:=fun _ _ _ _ st q=>m7 st.1 q
theorem m8 {b x y:Addr}(h:b∈[x,y]):b=x\/b=y:=by simpa using h
theorem B0 {b x y z:Addr}(h:b∈[x,y,z]):b=x\/b=y\/b=z:=by simpa using h
theorem yV:entryFor table "set.__iter__" = some Builtin.«frozenset.__iter__» :=
 entryFor_alias (id' := "frozenset.__iter__")
  (by kernel_rfl) rfl
  (by decide +kernel)
  (by kernel_rfl)
theorem dA.typeIs (S:dA knd s.heap a ks o es ep t):s.TypeIs (.ref a) "set" := ⟨o,S.at_,S.ex.1⟩
theorem wM {Q:Bool->Shared->Prop} (S:dA knd s.heap a ks o es ep t) (q:Q (!(w.params.followText "set-order")&&(!t.plain&&decide (es.size > 1))) s):wpAny (model prog w) A (setDrawn a) Q E s:=by
 unfold setDrawn
 refine Lo (LM S.at_ S.data S.fits ?_)
 dsimp only
 exact Lo (oE (Lq q))
def Comes (es:Array (Int×Value))(P:Nat->Value->Prop):Prop:=∃l:List (Int×Value),l.Perm es.toList/\P=fun i v=>∃e,l[i]?=some e/\e.2=v
theorem Ca {Q:Value->Shared->Prop}(hh:A.handled=none)(S:dA knd s.heap a ks o es ep t)
  (q:∀(I:Addr) (h':Heap) (d:_) (fp:List Addr) (P:Nat->Value->Prop) (St:Nat->Heap->Prop),(∀b o,s.heap.get? b=some o->h'.get? b=some o)->s.heap.objs.size<=I->(∀b∈fp,b<h'.objs.size)->(∀b,h'.objs.size<=b->b∉fp) ->
   (∀b∈fp,b=a\/s.heap.objs.size<=b)->Comes es P->(∀A:Around,A.handled=none->Walks prog w A I fp [I] es.size P St)->St 0 h'->Q (.ref I) { s with heap:=h',drawn:=d }) :
  wpAny (model prog w) A (pyIter (.ref a)) Q E s:=by
 have la:a<s.heap.objs.size:=IG S.at_
 refine wpAny_pyIter_slot S.typeIs PySem.F.slot_set_iter (Lu PySem.F.slot_set_iter S.typeIs yV ?_ (PySem.F.args_set_iter_1 _))
 unfold Builtin.«frozenset.__iter__»
 refine Lo ?_
 unfold Builtin.Frozenset.slot0
 refine Lo (Lq ?_)
 refine Lq ?_
 refine Lo ?_
 unfold Builtin.Frozenset.sizeOf
 refine Lo (LP S.at_ S.data S.fits (Lq ?_))
 refine Lo (wM S ?_)
 cases hb:w.params.followText "set-order" with
 | true =>
  rw [Bool.not_true,Kz,if_neg Je]
  refine Lo (Lq ?_)
  refine Lo (L5 S.at_ S.data S.fits ?_)
  refine Lo ?_
  simp only [newFields]
  refine Lv (Lq ⟨_,rfl, "set_iterator",_,⟨_,IK _ rfl,rfl⟩,slot_next.lookup,?_⟩) (by size_fits)
  refine q _ _ s.drawn [s.heap.objs.size,a] _ _ (fun b o e=>II _ e) (IF _) (fun b hb=>?_) (fun b hb hm=>?_) (fun b hb=>?_) ⟨_,iG (w.params.setOrder a ep) es,?_⟩ (fun A hh=>FC (knd:=knd) (ks:=ks) (o:=o) (t:=t) hh (IL la) hb trivial) ⟨⟨_,IK _ rfl,rfl,rfl⟩,S.keep fun o e=>II _ e⟩
  ·rw [Jh]
   rcases m8 hb with e | e
   ·rw [e];exact JD _
   ·rw [e];exact Jt la
  ·rw [Jh] at hb
   rcases m8 hm with e | e
   ·rw [e] at hb;exact KZ _ hb
   ·rw [e] at hb;exact Jd _ (Ji la (Kr hb))
  ·rcases m8 hb with e | e
   ·exact .inr (by rw [e];exact IF _)
   ·exact .inl e
  ·funext i v;simp
 | false =>
  rw [Bool.not_false,Kt]
  by_cases hd:(!t.plain&&decide (es.size > 1))=true
  ·rw [hd,if_pos rfl]
   refine Lo (GF es.size (Js es.size) s (by simp) fun ys d hp=>?_)
   have hz:(ys.map fun (i:Nat)=>rawInt i).length<=sizeLine:=by rw [ID,hp.length_eq,KY];exact fits_of_scanBound S.b8
   refine Lo (wpAny_newTuple ?_ hz)
   have S1:dA knd (s.heap.push { cls:=.type "tuple",data:=.seq (ys.map fun (i:Nat)=>rawInt i).toArray }) a ks o es ep t:=S.keep fun o e=>II _ e
   refine Lo (L5 S1.at_ S1.data S1.fits ?_)
   refine Lo ?_
   simp only [newFields]
   refine Lv (Lq ⟨_,rfl, "set_iterator",_,⟨_,IK _ rfl,rfl⟩,slot_next.lookup,?_⟩) (by size_fits)
   refine q _ _ d [(s.heap.push { cls:=.type "tuple",data:=.seq (ys.map fun (i:Nat)=>rawInt i).toArray }).objs.size,a,s.heap.objs.size] _ _ (fun b o e=>II _ (II _ e)) (by rw [Jh];exact JI _) (fun b hb=>?_) (fun b hb hm=>?_) (fun b hb=>?_) ⟨ys.filterMap fun k=>es[k]?,?_,rfl⟩
    (fun A hh=>FF (knd:=knd) (ks:=ks) (o:=o) (t:=t) (oT:={ cls:=.type "tuple",data:=.seq (ys.map fun (i:Nat)=>rawInt i).toArray }) hh (by rw [Jh];exact IL (Jt la)) (by rw [Jh];exact IL (JD _)) rfl hp) ⟨⟨_,IK _ rfl,rfl,rfl⟩,S1.keep fun o e=>II _ e,II _ (IK _ rfl)⟩
   ·rw [Jh,Jh]
    rcases B0 hb with e | e | e
    ·rw [e,Jh];exact JD _
    ·rw [e];exact Jt (Jt la)
    ·rw [e];exact Jt (JD _)
   ·rw [Jh,Jh] at hb
    rcases B0 hm with e | e | e
    ·rw [e,Jh] at hb;exact KZ _ hb
    ·rw [e] at hb;exact Jd _ (Ji la (Kr (Kr hb)))
    ·rw [e] at hb;exact KZ _ (Kr hb)
   ·rcases B0 hb with e | e | e
    ·exact .inr (by rw [e,Jh];exact JI _)
    ·exact .inl e
    ·exact .inr (by rw [e];exact IF _)
   ·refine (hp.filterMap _).trans ?_
    have:((Js es.size).filterMap fun k=>es[k]?)=es.toList:=by
     refine List.ext_getElem? fun i=>?_
     rw [pT (fun k hk=>JV.mp hk)]
     by_cases hi:i<es.size
     ·rw [List.getElem?_range hi];simp
     ·rw [Ku (by simp;omega),Ku (by simp;omega)];rfl
    rw [this]
  ·rw [if_neg hd]
   refine Lo (Lq ?_)
   refine Lo (L5 S.at_ S.data S.fits ?_)
   refine Lo ?_
   simp only [newFields]
   refine Lv (Lq ⟨_,rfl, "set_iterator",_,⟨_,IK _ rfl,rfl⟩,slot_next.lookup,?_⟩) (by size_fits)
   have hd':t.plain=true\/es.size<=1:=by
    cases hp:t.plain with
    | true=>exact .inl rfl
    | false=>right;rw [hp] at hd;simp at hd;exact hd
   refine q _ _ s.drawn [s.heap.objs.size,a] _ _ (fun b o e=>II _ e) (IF _) (fun b hb=>?_) (fun b hb hm=>?_) (fun b hb=>?_) ⟨es.toList,.refl _,?_⟩ (fun A hh=>FE (knd:=knd) (ks:=ks) (o:=o) (t:=t) hh (IL la) hb hd' S.fits S.up) ⟨⟨_,IK _ rfl,rfl,rfl⟩,S.keep fun o e=>II _ e⟩
   ·rw [Jh]
    rcases m8 hb with e | e
    ·rw [e];exact JD _
    ·rw [e];exact Jt la
   ·rw [Jh] at hb
    rcases m8 hm with e | e
    ·rw [e] at hb;exact KZ _ hb
    ·rw [e] at hb;exact Jd _ (Ji la (Kr hb))
   ·rcases m8 hb with e | e
    ·exact .inr (by rw [e];exact IF _)
    ·exact .inl e
   ·funext i v;simp
theorem Cb {Q:Bool->Shared->Prop} (hT:s.TypeIs (.ref a) "set") (q:Q false s):wpAny (model prog w) A (Builtin.List.listLengthHint (.ref a)) Q E s:=by
 unfold Builtin.List.listLengthHint
 refine Lo (wpAny_specialOf hT PySem.F.slot_set_len.lookup ?_)
 generalize hid:("set.__len__" : String)=id0
 wp_delta
 rw [show splitId id0=some ("set", "__len__") from by subst hid;decide +kernel]
 subst hid
 refine Lo (LO (T := "set") (b:=true) hT sub_set_self ?_)
 refine LX (fun hab=>absurd hab (by decide)) (fun _=>?_)
 refine LX (fun _=>?_) (fun hab=>absurd (by decide +kernel) hab)
 refine Lo (LK hT ?_)
 exact Lq q
end
open PySem.Calls PySem.W
section
variable {prog:Program}{w:World}{K:Type}[DecidableEq K]{knd:KeyKind prog w K}
variable {A:Around}{E:Value->Shared->Prop}{s:Shared}{a:Addr}{ks:List K}{o:Obj}{es:Array (Int×Value)}{ep:Nat}{t:SetTable}
theorem wN {P:Nat->Value->Prop}{got:Array Value}(hc:Comes es P)(hi:ItemsOf P got es.size):∃l:List (Int×Value),l.Perm es.toList/\got.toList=l.map (·.2):=by
 obtain⟨l,hp,rfl⟩:=hc
 refine⟨l,hp,?_⟩
 have hl:l.length=es.size:=by rw [hp.length_eq,JA]
 refine List.ext_getElem? fun i=>?_
 rw [IZ]
 by_cases h:i<es.size
 ·have e1:got.toList[i]?=some (got[i]'(by rw [hi.1];exact h)):=by simp [hi.1,h]
  obtain⟨e,he,hv⟩:=hi.2 i _ (by rw [<-KN];exact e1)
  rw [e1,he,<-hv];rfl
 ·rw [Ku (by rw [JA,hi.1];omega),Ku (by omega)];rfl
theorem yW {R:Result->Shared->Prop}(hh:A.handled=none)(S:dA knd s.heap a ks o es ep t)(L:Addr)(hLa:L≠a)(hL:s.heap.get? L=some { cls:=.type "list",data:=.seq #[] 0 })(res:Value)
  (fin:∀(g:Heap) (tk:Nat) (d:_) (got:Array Value) (c:Nat),(∀b o,b≠L->s.heap.get? b=some o->g.get? b=some o)->g.get? L=some { cls:=.type "list",dict:=none,data:=.seq got c,slots:=#[] } ->
   (∃l:List (Int×Value),l.Perm es.toList/\got.toList=l.map (·.2))->R (.ok (.ret res)) { s with heap:=g,toks:=tk,drawn:=d }) :
  wpAny (model prog w) A.in1 (Builtin.List.listExtendWith (.ref L) (.ref a) res)
   (fun fin s'=>match fin with | .done f=>R (.ok f) s' | .again c'=>c'.quiet=true/\codeAny (model prog w) A c' R s') (fun e s'=>R (.error e) s') s:=by
 have hz:es.size<=sizeLine:=fits_of_scanBound S.b8
 unfold Builtin.List.listExtendWith
 refine Lo (LK S.typeIs ?_)
 have h1:Builtin.List.listSameRef (.ref L) (.ref a)=false:=by simp [Builtin.List.listSameRef,hLa]
 rw [h1]
 have h2:(Value.type "set" == Value.type "list")=false:=by decide
 have h3:(Value.type "set" == Value.type "tuple")=false:=by decide
 rw [h2,h3]
 rw [if_neg (by decide)]
 refine Lo (Ca (A:=A.in1) hh S fun I h1 d fp P St keep hI hfp hnew hof hc W st=>?_)
 have hLlt:L<s.heap.objs.size:=IG hL
 have hLf:L∉fp:=fun hm=>by
  rcases hof L hm with e | e
  ·exact hLa e
  ·exact Jd _ (Ji hLlt e)
 have hLI:L≠I:=fun e=>Jd _ (Ji hLlt (e ▸ hI))
 have Wk:=W A.in1 hh
 have loop:∀(g:Heap) (c tk:Nat),St 0 g->(∀b o,b≠L->s.heap.get? b=some o->g.get? b=some o)->g.get? L=some { cls:=.type "list",data:=.seq #[] c } ->
   codeAny (model prog w) A (.builtin "list.extend.loop" ⟨[.ref L,.ref I,res],[]⟩) R { s with heap:=g,toks:=tk,drawn:=d }:=by
  intro g c tk st' kp gL
  refine codeAny_extend_loopS Wk.toS hz L hLf res es.size 0 _ #[] c rfl (Jc _) st' gL (ItemsOf.nil _) fun s' got c' mv gL' its=>?_
  have e:=Moved.eq_with mv
  rw [e]
  refine fin s'.heap s'.toks d got c' (fun b o hb e=>mv.heap b o (fun hm=>?_) (kp b o hb e)) gL' (wN hc its)
  rcases IE.mp hm with e' | hm
  ·exact hb e'
  ·rw [IH] at hm
   subst hm
   exact Jd _ (Ji (IG e) hI)
 have gL1:=keep _ _ hL
 refine Lo (Ls (Cb ⟨o,keep _ _ S.at_,S.ex.1⟩ ?_))
 refine LX (fun _=>?_) (fun _=>Lq ⟨plainId_quiet PySem.F.plain_extend_loop _,loop _ 0 _ st (fun b o _ e=>keep b o e) gL1⟩)
 refine Lo (LA ?_)
 refine Lo ?_
 show wpAny _ _ (updateSeq L (·.push .none) >>= fun _=>updateSeq L (·.pop)) _ _ _
 refine Lo (wpAny_updateSeq gL1 rfl ?_)
 have gL2:=JJ (Obj.mapSeq (·.push Value.none)) gL1 rfl
 refine wpAny_updateSeq (hz:=by seq_fits) gL2 rfl ?_
 have gL3:=JJ (Obj.mapSeq (·.pop)) gL2 rfl
 refine Lq ⟨plainId_quiet PySem.F.plain_extend_loop _,loop _ _ _ ?_ (fun b o hb e=>?_) gL3⟩
 ·refine Wk.frame 0 _ _ st fun b hb o e=>?_
  have hbL:b≠L:=fun h=>hLf (h ▸ hb)
  exact (JF _ _ (Ne.symm hbL)).trans ((JF _ _ (Ne.symm hbL)).trans e)
 ·exact (JF _ _ (Ne.symm hb)).trans ((JF _ _ (Ne.symm hb)).trans (keep b o e))
theorem qV {G:List Value->Shared->Prop}(calm:A.handled=none)(S:dA knd s.heap a ks o es ep t)
  (fin:∀(g:Heap) (tk:Nat) (d:_) (got:Array Value),(∀b o,s.heap.get? b=some o->g.get? b=some o)->(∃l:List (Int×Value),l.Perm es.toList/\got.toList=l.map (·.2))->s.heap.objs.size<=g.objs.size->G got.toList { s with heap:=g,toks:=tk,drawn:=d }) :
  wpAny (model prog w) A (collect (.ref a)) G E s:=by
 have la:a<s.heap.objs.size:=IG S.at_
 unfold collect
 refine Lo (wpAny_runValue (Ly entry_proto_collect' ?_))
 rw [JM PySem.F.plain_proto_collect _]
 show wpAny _ A.in1 (newList [] >>= fun z=>again (.builtin "list.__iadd__" ⟨[z,.ref a],[]⟩)) _ _ s
 refine Lo (Lv (Lq ⟨plainId_quiet PySem.F.plain_list_iadd _,Ly entry_list_iadd' ?_⟩))
 rw [JM PySem.F.plain_list_iadd _]
 show wpAny _ A.in1 (Builtin.List.listExtendWith (.ref s.heap.objs.size) (.ref a) (.ref s.heap.objs.size)) _ _ _
 have made:(s.heap.push { cls:=.type "list",data:=.seq ([]:List Value).toArray }).get? s.heap.objs.size=some { cls:=.type "list",data:=.seq #[] 0 }:=IK _ rfl
 have run:=yW (A:=A) (s:={ s with heap:=s.heap.push { cls:=.type "list",data:=.seq ([]:List Value).toArray } })
  (R:=fun (z:Result) (t:Shared)=>∃(g:Heap) (tk:Nat) (d:_) (got:Array Value) (c:Nat),z=.ok (.ret (.ref s.heap.objs.size))/\t={ s with heap:=g,toks:=tk,drawn:=d } /\
   (∀b o,s.heap.get? b=some o->g.get? b=some o)/\g.get? s.heap.objs.size=some { cls:=.type "list",dict:=none,data:=.seq got c,slots:=#[] }/\∃l:List (Int×Value),l.Perm es.toList/\got.toList=l.map (·.2))
  calm (S.keep fun o e=>II _ e) s.heap.objs.size (JB la) made (.ref s.heap.objs.size)
  (fun g tk d got c kept at_ its=>⟨g,tk,d,got,c,rfl,rfl,fun b o e=>kept b o (IL (IG e)) (II _ e),at_,its⟩)
 refine Lr run (fun z t x=>?_) fun z t ⟨_,_,_,_,_,bad,_⟩=>by cases bad
 cases z with
 | done f =>
  obtain⟨g,tk,d,got,c,e,rfl,kept,at_,its⟩:=x
  cases e
  show wpAny _ A (load s.heap.objs.size >>= _) _ _ _
  exact Lo (wpAny_load at_ (Lq (fin g tk d got kept its (Jo (IG at_)))))
 | again more =>
  refine⟨x.1,LB x.2 fun z' t' ⟨g,tk,d,got,c,e1,e2,kept,at_,its⟩=>?_⟩
  subst e1 e2
  show wpAny _ A (load s.heap.objs.size >>= _) _ _ _
  exact Lo (wpAny_load at_ (Lq (fin g tk d got kept its (Jo (IG at_)))))
end
end LS
namespace L2
open PySem PySem.Spec PyProof.Rows LS
theorem wO {P:Program}{w:World}{i:Int}{v:Value}(h:(aT P w).is (Sum.inl i) v=true):∃t,v=.int i t:=by
 rcases cW (show iR (Sum.inl i) v=true from h) with ⟨j,t,e,rfl⟩ | ⟨x,t,e,rfl⟩
 ·cases e;exact⟨t,rfl⟩
 ·cases e
def qW (m:List Key):List Str:=m.filterMap fun k=>match k with | .inr x=>some x | .inl _=>none
def qX (m:List Key):List Int:=m.filterMap fun k=>match k with | .inl x=>some x | .inr _=>none
theorem An (ss:List Str):qW (ss.map Sum.inr)=ss:=by
 induction ss with
 | nil=>rfl
 | cons x ss ih=>show x::qW (ss.map Sum.inr)=x::ss;rw [ih]
theorem Ao (ss:List Int):qX (ss.map Sum.inl)=ss:=by
 induction ss with
 | nil=>rfl
 | cons x ss ih=>show x::qX (ss.map Sum.inl)=x::ss;rw [ih]
theorem Cc {m:List Key}{ss:List Str}(p:m.Perm (ss.map Sum.inr)):m=(qW m).map Sum.inr/\(qW m).Perm ss:=by
 refine⟨?_,by have:=p.filterMap (fun k:Key=>match k with | .inr x=>some x | .inl _=>none);rw [show Kv _ (ss.map Sum.inr)=ss from An ss] at this;exact this⟩
 have hall:∀k∈m,∃x,k=Sum.inr x:=fun k hk=>by
  obtain⟨x,_,rfl⟩:=IS.mp (p.mem_iff.mp hk)
  exact⟨x,rfl⟩
 clear p
 induction m with
 | nil=>rfl
 | cons k m ih =>
  obtain⟨x,rfl⟩:=hall k (IP ..)
  have:=ih fun k hk=>hall k (IM _ hk)
  show Sum.inr x::m=Sum.inr x::(qW m).map Sum.inr
  rw [<-this]
theorem Cd {m:List Key}{ss:List Int}(p:m.Perm (ss.map Sum.inl)):m=(qX m).map Sum.inl/\(qX m).Perm ss:=by
 refine⟨?_,by have:=p.filterMap (fun k:Key=>match k with | .inl x=>some x | .inr _=>none);rw [show Kv _ (ss.map Sum.inl)=ss from Ao ss] at this;exact this⟩
 have hall:∀k∈m,∃x,k=Sum.inl x:=fun k hk=>by
  obtain⟨x,_,rfl⟩:=IS.mp (p.mem_iff.mp hk)
  exact⟨x,rfl⟩
 clear p
 induction m with
 | nil=>rfl
 | cons k m ih =>
  obtain⟨x,rfl⟩:=hall k (IP ..)
  have:=ih fun k hk=>hall k (IM _ hk)
  show Sum.inl x::m=Sum.inl x::(qX m).map Sum.inl
  rw [<-this]
section
variable {prog:Program}{w:World}{A:Around}{E:Value->Shared->Prop}{s:Shared}{a:Addr}{ks:List Key}{o:Obj}{es:Array (Int×Value)}{ep:Nat}{t:SetTable}
theorem vI {got:List Value}(S:LS.dA (aT prog w) s.heap a ks o es ep t)(h:∃l:List (Int×Value),l.Perm es.toList/\got=l.map (·.2)):∃m:List Key,m.Perm ks/\Paired (fun v k=>(aT prog w).is k v=true) got m:=by
 obtain⟨l,hp,rfl⟩:=h
 obtain⟨ls,q1,q2⟩:=S.ents
 obtain⟨m,m1,m2⟩:=kd hp q2
 refine⟨m,m1.trans q1,?_⟩
 clear hp q2 m1
 induction m2 with
 | nil=>exact .nil
 | cons r _ ih=>exact .cons r.1 ih
theorem m9:∀{got:List Value} {ss:List Str},Paired (fun v k=>(aT prog w).is k v=true) got (ss.map Sum.inr)->StrsAre got ss
 | _,[],.nil=>.nil
 | _,x::ss,.cons r t=>by
  obtain⟨t',rfl⟩:=o3 r
  exact .cons x t' (m9 t)
theorem nc:∀{got:List Value} {ss:List Int},Paired (fun v k=>(aT prog w).is k v=true) got (ss.map Sum.inl)->IntsAre got ss
 | _,[],.nil=>.nil
 | _,x::ss,.cons r t=>by
  obtain⟨t',rfl⟩:=wO r
  exact .cons x t' (nc t)
theorem wQ {ss:List Str}{Q:Value->Shared->Prop}(hh:A.handled=none)(S:LS.dA (aT prog w) s.heap a (ss.map Sum.inr) o es ep t)(h64:ss.length<64)
  (q:∀(h':Heap) (tk:Nat) (d:_) (D:Addr) (out:Array Value) (ss':List Str) (e:Nat),(∀b o,s.heap.get? b=some o->h'.get? b=some o)->s.heap.objs.size<=D->h'.get? D=some { cls:=.type "list",data:=.seq out e } ->
   StrsAre out.toList ss'->ss'.Perm ss->sortedS ss' = true->Q (.ref D) { s with heap:=h',toks:=tk,drawn:=d }) :
  wpAny (model prog w) A (call (.builtin "sorted") [.ref a]) Q E s:=by
 refine Calls.call_function_entry kind_sorted plain_sorted entry_sorted (args_sorted1 _) ?_
 unfold Builtin.«sorted»
 refine Lo (m:=checkCount "sorted" 1 1 _) (Lq ?_)
 refine Lo (qV (A:=A.in1) hh S fun h' tk d acc hkeep hacc hsz=>?_)
 obtain⟨m,m1,m2⟩:=vI S hacc
 obtain⟨e1,p1⟩:=Cc m1
 rw [e1] at m2
 have hS:=m9 m2
 have hl:acc.toList.length<64:=by rw [m2.length,ID,p1.length_eq];exact h64
 refine Lo (wpAny_newList ?_ (IQ (Jo hl) (by decide)))
 have hoL:(h'.push (seqObj "list" acc.toList.toArray 0)).get? h'.objs.size=some (seqObj "list" acc.toList.toArray 0):=IK _ rfl
 refine Lo (Ls (Lu slot_list_sort ⟨_,hoL,rfl⟩ entry_list_sort (list_sort_treeK strKind_oneLt hoL hS.keysOf (fun v₁ v₂ rest e=>keyKind_strs (by rw [<-e];exact hS)) hl fun st' a1 a2=>⟨_,rfl,?_⟩) (args_list_sort _)))
 obtain⟨ss',b1,b2,b3⟩:=sorted_out_str hS a1 a2
 obtain⟨e,he⟩:=sortedHeap_at (out:=(arrOf st').map (·.2)) hoL
 refine Lq ⟨_,rfl,q _ tk d _ _ ss' e (fun b o ho=>?_) hsz he b1 (b2.trans p1) b3⟩
 have h1:=hkeep b o ho
 have hlt:=IG h1
 rw [sortedHeap_old (IL hlt) (by rw [size_push'];exact Jt hlt)]
 exact II _ h1
theorem wR {ss:List Int}{Q:Value->Shared->Prop}(hh:A.handled=none)(S:LS.dA (aT prog w) s.heap a (ss.map Sum.inl) o es ep t)(h64:ss.length<64)
  (q:∀(h':Heap) (tk:Nat) (d:_) (D:Addr) (out:Array Value) (ss':List Int) (e:Nat),(∀b o,s.heap.get? b=some o->h'.get? b=some o)->s.heap.objs.size<=D->h'.get? D=some { cls:=.type "list",data:=.seq out e } ->
   IntsAre out.toList ss'->ss'.Perm ss->ss'.Pairwise (· <= ·)->Q (.ref D) { s with heap:=h',toks:=tk,drawn:=d }) :
  wpAny (model prog w) A (call (.builtin "sorted") [.ref a]) Q E s:=by
 refine Calls.call_function_entry kind_sorted plain_sorted entry_sorted (args_sorted1 _) ?_
 unfold Builtin.«sorted»
 refine Lo (m:=checkCount "sorted" 1 1 _) (Lq ?_)
 refine Lo (qV (A:=A.in1) hh S fun h' tk d acc hkeep hacc hsz=>?_)
 obtain⟨m,m1,m2⟩:=vI S hacc
 obtain⟨e1,p1⟩:=Cd m1
 rw [e1] at m2
 have hS:=nc m2
 have hl:acc.toList.length<64:=by rw [m2.length,ID,p1.length_eq];exact h64
 refine Lo (wpAny_newList ?_ (IQ (Jo hl) (by decide)))
 have hoL:(h'.push (seqObj "list" acc.toList.toArray 0)).get? h'.objs.size=some (seqObj "list" acc.toList.toArray 0):=IK _ rfl
 refine Lo (Ls (Lu slot_list_sort ⟨_,hoL,rfl⟩ entry_list_sort (list_sort_tree hoL hS hl fun out ss' b1 b2 b3=>⟨_,rfl,?_⟩) (args_list_sort _)))
 obtain⟨e,he⟩:=sortedHeap_at (out:=out) hoL
 refine Lq ⟨_,rfl,q _ tk d _ _ ss' e (fun b o ho=>?_) hsz he b1 (b2.trans p1) b3⟩
 have h1:=hkeep b o ho
 have hlt:=IG h1
 rw [sortedHeap_old (IL hlt) (by rw [size_push'];exact Jt hlt)]
 exact II _ h1
end
def cI (P:Program)(w:World)(a:Addr)(ks:List Key):HO:=.ext fun h=>eF (aT P w) h a ks
theorem kU {P:Program}{w:World}{H:Hp}{h:Heap}{a:Addr}{ks:List Key}(S:eF (aT P w) h a ks):bN P w H h a (cI P w a ks) :=
 ⟨S,let ⟨o,_,_,_,S⟩:=S;⟨o,S.at_⟩,fun h1 h2 S k=>S.keep k⟩
section
variable {X:Cx}{pins:List (Addr×Obj)}{IA : List (Option V)}{H:Hp}{s:Shared}
theorem Inv.sG {a:Addr}{ks:List Key}(I:Inv X pins IA H s)(h:H a=some (cI X.prog X.w a ks)):eF (aT X.prog X.w) s.heap a ks:=(I.aN a _ h).1
theorem Inv.xI {d:_}(I:Inv X pins IA H s):Inv X pins IA H { s with drawn:=d }:=⟨I.ok,I.os,I.bare,I.base,I.loc,I.cell,I.free,I.dH,I.pin,I.aN,I.len⟩
theorem uF (hc:X.calm=true):dU X (.builtin "sorted") (fun vs H Q=>∃(a:Addr) (ss:List Str),vs=[.ref a]/\H a=some (cI X.prog X.w a (ss.map Sum.inr))/\ss.length<64 /\
  ∀(l:Addr) (ss':List Str),ss'.Perm ss->sortedS ss' = true->H l=none->Q (.ref l) (upd H l (.lst (ss'.map V.str)))):=by
 intro pins s IA H xs us Q I r h
 obtain⟨a,ss,rfl,ha,h64,q⟩:=h
 obtain⟨u,rfl,ru⟩:=vals1 r
 cases (show u=Value.ref a from ru)
 obtain⟨o,es,ep,t,S⟩:=I.sG ha
 refine wQ (I.ok.hd hc) S h64 fun h' tk d D out ss' e hkeep hD he hS hp hs=>?_
 have hv:Vals (ss'.map V.str) out.toList:=oC hS
 refine⟨.ref D,_,(I.xI (d:=d)).laid (t':=tk) (o:=.lst (ss'.map V.str)) hkeep hD (show bN X.prog X.w _ h' _ (.lst (ss'.map V.str)) from ⟨?_,out.toList,e,hv,by simpa using he⟩),rfl,q D ss' hp hs (I.aN.fresh hD)⟩
 rw [ID,hp.length_eq]
 exact IQ (Jo h64) (by decide)
theorem mD (hc:X.calm=true):dU X (.builtin "sorted") (fun vs H Q=>∃(a:Addr) (ss:List Int),vs=[.ref a]/\H a=some (cI X.prog X.w a (ss.map Sum.inl))/\ss.length<64 /\
  ∀(l:Addr) (ss':List Int),ss'.Perm ss->ss'.Pairwise (· <= ·)->H l=none->Q (.ref l) (upd H l (.lst (ss'.map V.int)))):=by
 intro pins s IA H xs us Q I r h
 obtain⟨a,ss,rfl,ha,h64,q⟩:=h
 obtain⟨u,rfl,ru⟩:=vals1 r
 cases (show u=Value.ref a from ru)
 obtain⟨o,es,ep,t,S⟩:=I.sG ha
 refine wR (I.ok.hd hc) S h64 fun h' tk d D out ss' e hkeep hD he hS hp hs=>?_
 have hv:Vals (ss'.map V.int) out.toList:=mW hS
 refine⟨.ref D,_,(I.xI (d:=d)).laid (t':=tk) (o:=.lst (ss'.map V.int)) hkeep hD (show bN X.prog X.w _ h' _ (.lst (ss'.map V.int)) from ⟨?_,out.toList,e,hv,by simpa using he⟩),rfl,q D ss' hp hs (I.aN.fresh hD)⟩
 rw [ID,hp.length_eq]
 exact IQ (Jo h64) (by decide)
end
end L2
namespace LS
open PySem PySem.Spec PyProof.Rows L2
section
variable {K:Type}[DecidableEq K]
def putIn (acc:List K)(k:K):List K:=if k∈acc then acc else acc++[k]
def cD (ms:List K):List K:=ms.foldl putIn []
theorem iZ {acc:List K}{k x:K}:x∈putIn acc k↔x∈acc\/x=k:=by
 unfold putIn
 split
 ·rename_i h
  exact⟨.inl,fun z=>z.elim id (fun e=>e ▸ h)⟩
 ·simp
theorem Ap (acc:List K)(k:K):(putIn acc k).length<=acc.length+1:=by unfold putIn;split <;> simp
theorem vJ:∀(ms acc:List K) (x:K),x∈ms.foldl putIn acc↔x∈acc\/x∈ms
 | [],acc,x=>by simp
 | k::ms,acc,x=>by
  rw [Ke,vJ ms,iZ]
  simp [or_assoc]
theorem j2 {ms:List K}{x:K}:x∈cD ms↔x∈ms:=by unfold cD;rw [vJ];simp
theorem vK:∀(ms acc:List K),(ms.foldl putIn acc).length<=acc.length+ms.length
 | [],acc=>by simp
 | k::ms,acc=>by
  rw [Ke]
  have:=vK ms (putIn acc k)
  have:=Ap acc k
  simp only [Jr];omega
theorem xJ:∀(ms acc:List K),acc.Nodup->(ms.foldl putIn acc).Nodup
 | [],acc,h=>h
 | k::ms,acc,h=>by
  rw [Ke]
  refine xJ ms _ ?_
  unfold putIn
  split
  ·exact h
  ·rename_i hn
   rw [Kh]
   exact⟨h,by simp,fun a ha b hb e=>hn (by rw [IH] at hb;rw [<-hb,<-e];exact ha)⟩
theorem pU (ms:List K):(cD ms).Nodup:=xJ ms [] Kq
end
section
variable {prog:Program}{w:World}{A:Around}{E:Value->Shared->Prop}{s:Shared}
theorem vL {k:Key}{v:Value}(h:(aT prog w).is k v=true):v.scannable=true:=by
 rcases cW (show iR k v=true from h) with ⟨j,t,_,rfl⟩ | ⟨x,t,_,rfl⟩ <;> rfl
theorem sH {a:Addr}{ks:List Key}{k:Key}{v:Value}{Q:Bool->Shared->Prop}(hk:(aT prog w).is k v=true)(S:eF (aT prog w) s.heap a ks)(room:ks.length+1<scanBound)
  (q:∀h',Jk a s.heap h'->eF (aT prog w) h' a (putIn ks k)->∀c:Bool,Q c { s with heap:=h',toks:=s.toks+1 }):wpAny (model prog w) A (setAdd a v) Q E s:=by
 unfold setAdd
 refine Ls ?_
 refine Lo ((aT prog w).pyHash hk ?_)
 exact yT (s:={ s with toks:=s.toks+1 }) hk (vL hk) S room fun h' b S'=>q h' b S' _
theorem Ce {a:Addr}{ks:List Key}{k:Key}{v:Value}{Q:Value->Shared->Prop}(hk:(aT prog w).is k v=true)(S:eF (aT prog w) s.heap a ks)(room:ks.length+1<scanBound)
  (q:∀h',Jk a s.heap h'->eF (aT prog w) h' a (putIn ks k)->Q .none { s with heap:=h',toks:=s.toks+1 }):wpAny (model prog w) A (call (.builtin "set.add") [.ref a,v]) Q E s:=by
 refine Lu PySem.F.slot_set_add S.setOf.typeIs PySem.F.entry_set_add ?_ (PySem.F.args_set_add_2 _ _)
 unfold Builtin.«set.add» Builtin.Frozenset.oneOther
 simp only [List.isEmpty_nil,bind_assoc]
 unfold Builtin.Frozenset.addrOf
 refine Lo (Lq ?_)
 refine Lo (Lq ?_)
 refine Lo (sH hk S room fun h' b S' _=>?_)
 exact Lq ⟨_,rfl,q h' b S'⟩
theorem Aq {I L:Addr}{fp wr:List Addr}{G:Array GenState->Array GenState->Prop}{n:Nat}{P:Nat->Value->Prop}{St:Nat->Shared->Prop}{R:Result->Shared->Prop}(W:WalksS prog w A.in1 I fp wr G n P St)(hLf:L∉fp)
  (ms:List Key) (hl:ms.length=n) (hm:∀i v,P i v->∃k,ms[i]?=some k/\(aT prog w).is k v=true) (hb:n+1<scanBound) :
  ∀(k i:Nat) (s:Shared),n-i=k->i<=n->St i s->eF (aT prog w) s.heap L (cD (ms.take i)) ->
   (∀s',Moved (L::wr) G s s'->eF (aT prog w) s'.heap L (cD ms)->R (.ok (.ret .none)) s') ->
   codeAny (model prog w) A (.builtin "set.update.loop" ⟨[.ref L,.ref I],[]⟩) R s:=by
 have hLw:L∉wr:=fun h=>hLf (W.sub _ h)
 intro k
 induction k with
 | zero =>
  intro i s hk hi st S q
  have e:i=n:=by omega
  subst e
  refine Ly PyProof.Rows.F.entry_set_update_loop ?_
  rw [JM PyProof.Rows.F.plain_set_update_loop _]
  show wpAny _ A.in1 (pyNext (.ref I) >>= _) _ _ s
  refine Lo (W.done s _ _ st fun s' mv=>?_)
  refine Lq (q s' (mv.mono fun b hb=>IM _ hb) ?_)
  rw [Lj (by omega)] at S
  exact S.keep fun o e=>mv.heap L _ hLw e
 | succ k ih =>
  intro i s hk hi st S q
  have hlt:i<n:=by omega
  refine Ly PyProof.Rows.F.entry_set_update_loop ?_
  rw [JM PyProof.Rows.F.plain_set_update_loop _]
  show wpAny _ A.in1 (pyNext (.ref I) >>= _) _ _ s
  refine Lo (W.item i s _ _ hlt st fun v s' hP st' mv=>?_)
  obtain⟨key,hkey,his⟩:=hm i v hP
  have S':eF (aT prog w) s'.heap L (cD (ms.take i)):=S.keep fun o e=>mv.heap L _ hLw e
  refine Lo (Ls (sH his S' ?_ fun h' sb S2 _=>?_))
  ·have h1:=vK (ms.take i) []
   have h2:(ms.take i).length<=i:=by rw [Jm];omega
   have h3:(cD (ms.take i)).length<=0+(ms.take i).length:=h1
   omega
  ·have e1:putIn (cD (ms.take i)) key=cD (ms.take (i+1)):=by
    unfold cD
    rw [Ju,hkey,K3];rfl
   rw [e1] at S2
   refine Lq ⟨plainId_quiet PyProof.Rows.F.plain_set_update_loop _,ih (i+1) _ (by omega) hlt (W.frame _ s' _ _ st' (JI _) fun b hb o e=>?_) S2 fun s'' mv2 S3=>?_⟩
   ·rw [sb.2 b (fun h:b=L=>hLf (by rw [<-h];exact hb))];exact e
   ·refine q s'' (Moved.trans W.gtrans ((mv.mono fun b hb=>IM _ hb).then_heap (JI _) fun b o hb e=>?_) mv2) S3
    rw [sb.2 b (fun h:b=L=>hb (by rw [h];exact IP))];exact e
end
theorem lN {α β : Type}{F:α->β->Prop}:∀{l:List α} {m:List β},Paired F l m->∀{i:Nat} {x:α},l[i]?=some x->∃y,m[i]?=some y/\F x y
 | _,_,.nil,i,x,e=>by simp at e
 | _,_,.cons r _,0,x,e=>by simp at e;subst e;exact⟨_,rfl,r⟩
 | _,_,.cons _ t,i+1,x,e=>by simpa using lN t (i:=i) (x:=x) (by simpa using e)
def df (w:World):Obj:={ cls:=.type "set",dict:=none,data:=.set #[] 0 (.fresh 0 0 (!(w.params.followText "set-order"))) }
section
variable {prog:Program}{w:World}{A:Around}{E:Value->Shared->Prop}{s:Shared}
theorem Ar (rest:List Value) (hc:checkBuiltinCall "set.__new__" ⟨.type "set" :: rest,[]⟩=pure ()) {Q:Value->Shared->Prop} (q:Q (.ref s.heap.objs.size) { s with heap:=s.heap.push (df w) }) :
  codeAny (model prog w) A (.call (.builtin "set.__new__") ⟨.type "set" :: rest,[]⟩) (wants Q E) s:=by
 refine codeAny_of_tree ?_
 show wpAny _ A.in1 (checkBuiltinCall "set.__new__" ⟨.type "set" :: rest,[]⟩ >>= fun _=>again (.builtin "set.__new__" ⟨.type "set" :: rest,[]⟩)) _ _ s
 refine Lo (wpAny_of_eq hc (Lq ⟨plainId_quiet PySem.F.plain_set_new _,Ly PySem.F.entry_set_new ?_⟩))
 rw [JM PySem.F.plain_set_new _]
 unfold Builtin.«set.__new__» Builtin.Frozenset.newClass
 have hsub:=sub_set_self
 obtain⟨hp,g,d,tk,os⟩:=s
 dsimp only
 wp_walk
 refine LW (Lq ?_)
 dsimp only
 simp only [newObj]
 refine Lo (LQ (Lq ?_))
 exact Lq q
theorem vM {rest:List Value} {Q:Value->Shared->Prop} (hct:checkTypeCall "set" ⟨rest,[]⟩=pure ()) (hcn:checkBuiltinCall "set.__new__" ⟨.type "set" :: rest,[]⟩=pure ())
  (hci:∀(M:Model) (A:Around) (E:Value->Shared->Prop) (s':Shared) (Q':Unit->Shared->Prop),s'.TypeIs (.ref s.heap.objs.size) "set" -> Q' () s'->wpAny M A (checkBuiltinCall "set.__init__" ⟨.ref s.heap.objs.size::rest,[]⟩) Q' E s')
  (init:∀(R:Result->Shared->Prop),(∀h' tk,(∀b o,s.heap.get? b=some o->h'.get? b=some o)->Q (.ref s.heap.objs.size) { s with heap:=h',toks:=tk }->R (.ok (.ret .none)) { s with heap:=h',toks:=tk }) ->
   wpAny (model prog w) A.in1.in1 (Builtin.«set.__init__» ⟨.ref s.heap.objs.size::rest,[]⟩) (fun fin s'=>match fin with | .done f=>R (.ok f) s' | .again c'=>c'.quiet=true/\codeAny (model prog w) A.in1 c' R s') (fun e s'=>R (.error e) s')
    { s with heap:=s.heap.push (df w) }) :
  wpAny (model prog w) A (call (.type "set") rest) Q E s:=by
 obtain⟨c,tl,hmro⟩:=PySem.F.called_set.mro
 have hmade:=PySem.F.called_set.made
 have hsub:=PySem.F.called_set.sub
 refine wpAny_call (codeAny_of_tree ?_)
 show wpAny _ _ (callAny (.type "set") _) _ _ _
 refine Lq ⟨Code.quiet_builtin _ (by decide +kernel),Ly PySem.F.entry_type_call ?_⟩
 rw [Around.under_plain (weight_type_call_type "set" rest []) rfl]
 have h1:=PySem.F.called_set.notType
 have h2:=PySem.F.called_set.canCreate
 repeat (any_goals (first | assumption | wp_step))
 refine LB (Ar (w:=w) rest hcn (E:=E) (Q:=fun obj s₁=>obj=.ref s.heap.objs.size/\s₁ = { s with heap:=s.heap.push (df w) }) ⟨rfl,rfl⟩) fun r s₁ hr=>?_
 cases r with
 | error e=>exact hr
 | ok fl =>
  cases fl with
  | ret obj =>
   obtain⟨rfl,rfl⟩:=hr
   have hS:(s.heap.push (df w)).get? s.heap.objs.size=some (df w):=IK _ rfl
   have hT:Shared.TypeIs { s with heap:=s.heap.push (df w) } (.ref s.heap.objs.size) "set" := ⟨_,hS,rfl⟩
   have hli:=PySem.F.called_set.init.lookup
   have hbi:=PySem.F.called_set.init.bind (.ref s.heap.objs.size)
   repeat (any_goals (first | assumption | wp_step))
   refine LB (L6 (R:=wants (fun r s₂=>r=.none/\Q (.ref s.heap.objs.size) s₂) E) PySem.F.called_set.init.plain PySem.F.entry_set_init (hci _ _ _ _ _ hT (init _ fun h' tk _ q=>⟨rfl,q⟩))) fun r₂ s₂ hr₂=>?_
   cases r₂ with
   | error e=>exact hr₂
   | ok fl₂ =>
    cases fl₂ with
    | ret r =>
     obtain⟨rfl,hq⟩:=hr₂
     repeat (any_goals (first | assumption | wp_step))
    | _=>exact hr₂.elim
  | _=>exact hr.elim
theorem As {Q:Value->Shared->Prop}(q:∀h',eF (aT prog w) h' s.heap.objs.size []->(∀b o,s.heap.get? b=some o->h'.get? b=some o)->Q (.ref s.heap.objs.size) { s with heap:=h' }):wpAny (model prog w) A (call (.type "set") []) Q E s:=by
 refine vM PySem.F.typeCall_set_0 PySem.F.newCall_set_0 (fun M A E s' Q' hT q'=>check_set_init hT q') fun R fin=>?_
 have hS:(s.heap.push (df w)).get? s.heap.objs.size=some (df w):=IK _ rfl
 have hT:Shared.TypeIs { s with heap:=s.heap.push (df w) } (.ref s.heap.objs.size) "set" := ⟨_,hS,rfl⟩
 unfold df at hS hT ⊢
 unfold Builtin.«set.__init__» noKeywords
 wp_walk
 exact fin _ s.toks (fun b o e=>II _ e) (q _ (m6 rfl hS) fun b o e=>II _ e)
theorem set_list {l:Addr}{items:Array Value}{ms:List Key}{Q:Value->Shared->Prop}(hh:A.handled=none)(hl:s.heap.IsList l items)(hm:Paired (fun v k=>(aT prog w).is k v=true) items.toList ms)(hb:items.size+1<scanBound)
  (q:∀h' tk,eF (aT prog w) h' s.heap.objs.size (cD ms)->(∀b o,s.heap.get? b=some o->h'.get? b=some o)->Q (.ref s.heap.objs.size) { s with heap:=h',toks:=tk }):wpAny (model prog w) A (call (.type "set") [.ref l]) Q E s:=by
 refine vM (PySem.F.typeCall_set_1 _) (PySem.F.newCall_set_1 _) (fun M A E s' Q' hT q'=>check_set_init_1 hT q') fun R fin=>?_
 have hS:(s.heap.push (df w)).get? s.heap.objs.size=some (df w):=IK _ rfl
 have hT:Shared.TypeIs { s with heap:=s.heap.push (df w) } (.ref s.heap.objs.size) "set" := ⟨_,hS,rfl⟩
 have hz:(s.heap.push (df w)).objs.size=s.heap.objs.size+1:=Jh _ _
 obtain⟨ol,hol,hcl,nl,hdl⟩:=id hl
 obtain⟨ocls,odict,odata,oslots⟩:=ol
 simp only at hcl hdl
 subst hcl
 subst hdl
 have hol':(s.heap.push (df w)).get? l=some { cls:=.type "list",dict:=odict,data:=.seq items nl,slots:=oslots }:=II _ hol
 have hsls:=PySem.F.sub_list_set
 have hslf:=PySem.F.sub_list_frozenset
 have hne:(Value.type "list" == Value.type "dict")=false:=by decide
 have hl1:(s.heap.push (df w)).IsList l items:=⟨_,hol',rfl,nl,rfl⟩
 have hlS:l<s.heap.objs.size:=IG hol
 unfold df at hS hT hz hol' hl1 ⊢
 unfold Builtin.«set.__init__» noKeywords Builtin.Frozenset.updateFrom
 generalize hPI:pyIter=PI
 wp_walk
 subst hPI
 refine L1 hl1 ?_
 refine Lo (wpAny_runValue ?_)
 have hh3:A.in1.in1.in1.handled=none:=by simp [hh]
 refine Aq (L:=s.heap.objs.size) ((Walks.list hh3 _ l ?_ items).toS) ?_ ms ?_ (fun i v hv=>?_) hb (items.size-0) 0 _ (by omega) (Jc _) ⟨⟨_,IK _ rfl,rfl,rfl⟩,(hl1.push _)⟩ ?_ fun s' mv S'=>?_
 ·rw [hz];exact IL (Jt hlS)
 ·rw [hz]
  intro hmem
  rcases m8 hmem with e | e
  ·exact absurd e (IL (JD _))
  ·exact absurd e (JB hlS)
 ·rw [<-hm.length,JA]
 ·have hv':items.toList[i]?=some v:=by rw [KN];exact hv
  exact lN hm hv'
 ·exact m6 rfl (II _ hS)
 ·obtain⟨h',g',d',tk',os'⟩:=s'
  have eg:g' = s.gens:=mv.gens
  have ed:d' = s.drawn:=mv.drawn
  have eo:os' = s.os:=mv.os
  subst eg;subst ed;subst eo
  have kp:∀b o,s.heap.get? b=some o->h'.get? b=some o:=fun b o e=>mv.heap b o (fun hm=>by
   rcases m8 hm with e' | e'
   ·exact absurd e' (IL (IG e))
   ·rw [hz] at e';exact absurd e' (IL (Jt (IG e)))) (II _ (II _ e))
  show wpAny _ _ _ _ _ _
  refine Lq ?_
  exact Lq (fin h' tk' kp (q h' tk' S' kp))
end
end LS
namespace L2
open PySem PySem.Spec PyProof.Rows LS
theorem Au:bootBuiltins "set" = some (.type "set"):=by decide +kernel
theorem DY {K:Type}[DecidableEq K]{k:K}{ks:List K}:decide (k∈ks)=true↔k∈ks:=decide_eq_true_iff
theorem oF {P:Program}{w:World}{k:Key}{v:Value}(r:RelV (kV k) v):(aT P w).is k v=true:=by
 cases k with
 | inl i=>obtain⟨t,rfl⟩:=r;exact oR P w i t
 | inr x=>obtain⟨t,rfl⟩:=r;exact oU P w x t
theorem o6 {P:Program}{w:World}:∀{ks:List Key} {us:List Value},Vals (ks.map kV) us->Paired (fun v k=>(aT P w).is k v=true) us ks
 | [],_,.nil=>.nil
 | k::ks,_,.cons r t=>.cons (oF r) (o6 t)
section
variable {X:Cx}
theorem Inv.Ik {pins:List (Addr×Obj)}{IA : List (Option V)}{H:Hp}{s:Shared}{n:Nat}(I:Inv X pins IA H s):Inv X pins IA H { s with toks:=n }:=⟨I.ok,I.os,I.bare,I.base,I.loc,I.cell,I.free,I.dH,I.pin,I.aN,I.len⟩
theorem Av:dU X (.type "set") (fun vs H Q=>vs=[]/\∀l,H l=none->Q (.ref l) (upd H l (cI X.prog X.w l []))):=by
 intro pins s IA H xs us Q I r h
 obtain⟨rfl,q⟩:=h
 cases r
 refine As fun h' S kp=>?_
 exact⟨.ref s.heap.objs.size,_,I.laid (t':=s.toks) kp (IF _) (kU S),rfl,q _ I.fresh⟩
theorem Aw (hc:X.calm=true):dU X (.type "set") (fun vs H Q=>∃(p:Addr) (ks:List Key),vs=[.ref p]/\aO X.K H p (ks.map kV)/\ks.length+1<scanBound/\∀l,H l=none->Q (.ref l) (upd H l (cI X.prog X.w l (cD ks)))):=by
 intro pins s IA H xs us Q I r h
 obtain⟨p,ks,rfl,hp,hz,q⟩:=h
 obtain⟨u,rfl,ru⟩:=vals1 r
 cases (show u=Value.ref p from ru)
 obtain⟨its,hv,pl,_⟩:=I.list hp
 have hm:=o6 (P:=X.prog) (w:=X.w) hv
 refine LS.set_list (I.ok.hd hc) pl.isList (by simpa using hm) (by have:=hm.length;simp at this ⊢;omega) fun h' tk S kp=>?_
 exact⟨.ref s.heap.objs.size,_,I.laid (t':=tk) kp (IF _) (kU S),rfl,q _ I.fresh⟩
inductive HK (P:Program) (w:World) (neg:Bool) (x:V) (y:V) (H:Hp) (Q:VK):Prop
 | mk (a ks k:_) (_:y=.ref a) (_:H a=some (cI P w a ks)) (_:x=kV k) (_:∀b:Bool,(b=true↔k∈ks)->Q (.bl (if neg then !b else b)) H)
theorem Ax:dZ X (compareOp .NotIn) (HK X.prog X.w true):=by
 intro pins s IA H x y v u Q I rx ry h
 obtain⟨a,ks,k,rfl,ha,rfl,q⟩:=h
 cases ry
 have hk:(aT X.prog X.w).is k v=true:=oF rx
 have S:=(I.sG ha).setOf
 exact wpAny_notInSet_of hk (vL hk) S ⟨.bl _,H,I.Ik,rfl,q _ DY⟩
def HL (P:Program)(w:World)(r:V->List V->Hp->VK->Prop)(to:TE)(t:TA):TE:=fun IA H Q=>to IA H fun x H1=>(∃a ks,x=.ref a/\H1 a=some (cI P w a ks))/\t IA H1 fun xs H2=>r x xs H2 Q
variable {o e:Expr}{es:List Expr}{to:TE}{t:TA}{name:Str}{apos cpos:Pos}{id:String}{r:V->List V->Hp->VK->Prop}
theorem Ay (slot:Slot "set" name id) (hty:typeOf (.builtin id)=pure (.type "method_descriptor")) (hm:zQ X id r) (ho:PE X o to) (ha:PA X (e::es) t)
  (hbase:attributeBase o name X.env (eval o X.env)=eval o X.env:=by rfl)
  (hfew:((backTo cpos (starEach (e::es) X.env)).all (fun x=>!x.1)&&(backToKw cpos (keywordEach [] X.env)).all (fun x=>x.1.isSome)
   && decide ((e::es).length+([]:List Keyword).length+(if ([]:List Keyword).isEmpty then 0 else 1)<30))=true:=by rfl)
  (hline:(apos.endLine == cpos.line)=true:=by rfl) (hs:starEach (e::es) X.env=(false,eval e X.env)::starEach es X.env:=by rfl) (hplain:(backTo cpos (starEach es X.env)).any (·.1)=false:=by rfl) :
  PE X (.Call (.Attribute o name apos) (e::es) [] cpos) (HL X.prog X.w r to t):=by
 intro pins s IA H Q I h
 refine wpAny_Call_method_late hbase hfew hline rfl (aX (ho pins s IA H _ I h) fun v s1 ⟨x,H1,I1,r1,ty,q1⟩=>?_)
 obtain⟨a,ks,rfl,hset⟩:=ty
 cases (show v=Value.ref a from r1)
 have S:=(I1.sG hset).setOf
 refine⟨"set",id,PySem.F.plainAttrs_set,slot,hty,S.typeIs,S.noDict,?_⟩
 have hA:=ha cpos pins s1 IA H1 _ I1 q1
 rw [hs] at hA ⊢
 refine Calls.callWith_builtin (by show (false||(backTo cpos (starEach es X.env)).any (·.1))=false;rw [hplain] <;> rfl) (Calls.evalArgs_plain ?_)
 exact aX hA fun us s2 ⟨vs,H2,I2,r2,q2⟩=>hm pins s2 IA H2 (.ref a) vs (.ref a) us Q I2 rfl r2 q2
inductive GG (P:Program) (w:World) (x:V) (vs:List V) (H:Hp) (Q:VK):Prop
 | mk (a ks k:_) (_:x=.ref a) (_:vs=[kV k]) (_:H a=some (cI P w a ks)) (_:ks.length+1<scanBound) (_:Q .bg (upd H a (cI P w a (putIn ks k))))
theorem xK:zQ X "set.add" (GG X.prog X.w):=by
 intro pins s IA H x xs v us Q I rx r h
 obtain⟨a,ks,k,rfl,rfl,ha,hz,q⟩:=h
 cases (show v=Value.ref a from rx)
 obtain⟨u,rfl,ru⟩:=vals1 r
 refine Ce (oF ru) (I.sG ha) hz fun h' b S'=>?_
 refine⟨.bg,_,I.write (t':=s.toks+1) (x:=a) (e:=a) (by rw [ha];exact trivial) (.inl rfl) (fun c u' hc hu=>b.extBut c u' hc hu) ?_ (kU S'),rfl,q⟩
 obtain⟨o,_,_,_,So⟩:=S'
 exact⟨o,So.at_⟩
end
structure uY (K:IC) (mg:Str->Option Value) (aD d0 d1 d2 d3 d4:Addr):Prop where
 tab:BR K mg "DEED_PARTS" aD [("put",d0),("copy",d1),("add",d2),("read",d3),("tell",d4)]
 q0:KTup K d0 ["name", "number"]
 q1:KTup K d1 ["name", "name"]
 q2:KTup K d2 ["name", "number"]
 q3:KTup K d3 ["name"]
 q4:KTup K d4 ["name"]
def cg:cH->List Str
 | .put x _=>[x]
 | .copy x y=>[x,y]
 | .add x _=>[x]
 | .read x=>[x]
 | .tell x=>[x]
def gh:End->List Str
 | .cC _ x _ _ _=>[x]
 | _=>[]
def pNames (p:Piece):List Str:=p.1.flatMap cg++gh p.2
def ba (ps:List Piece):List Str:=ps.flatMap pNames
def kD:cH->List Str
 | .put ..=>["name", "number"]
 | .copy ..=>["name", "name"]
 | .add ..=>["name", "number"]
 | .read ..=>["name"]
 | .tell ..=>["name"]
def wD:cH->Str
 | .put .. => "put"
 | .copy .. => "copy"
 | .add .. => "add"
 | .read .. => "read"
 | .tell .. => "tell"
theorem yX (d:cH):∃xs,oA d=.str (wD d)::xs/\xs.length<=1000/\pick "name" xs (kD d)=(cg d).map V.str:=by
 have h2:¬("number" : Str) = "name" := by decide +kernel
 cases d with
 | put x n=>exact⟨_,rfl,by show 2<=1000;decide,by simp [pick,kD,cg,h2]⟩
 | copy x y=>exact⟨_,rfl,by show 2<=1000;decide,by simp [pick,kD,cg]⟩
 | add x n=>exact⟨_,rfl,by show 2<=1000;decide,by simp [pick,kD,cg,h2]⟩
 | read x=>exact⟨_,rfl,by show 1<=1000;decide,by simp [pick,kD,cg]⟩
 | tell x=>exact⟨_,rfl,by show 1<=1000;decide,by simp [pick,kD,cg]⟩
theorem yY (e:End):∃xs,fo e=.str (wE e)::xs/\xs.length<=1000/\pick "name" xs (kE e)=(gh e).map V.str:=by
 have h1:¬("piece" : Str) = "name" := by decide +kernel
 have h2:¬("number" : Str) = "name" := by decide +kernel
 cases e with
 | stop=>exact⟨[],rfl,by decide,rfl⟩
 | go p=>exact⟨_,rfl,by show 1<=1000;decide,by simp [pick,kE,gh,h1]⟩
 | cC b x n p q=>exact⟨_,rfl,by show 4<=1000;decide,by simp [pick,kE,gh,h1,h2]⟩
theorem kW {k:Str}{d:Addr}{D:List (Str×Addr)}:KTD.datumAt k ((k,d)::D)=some d:=by
 show (if decide (k=k)=true then some d else KTD.datumAt k D)=some d
 rw [if_pos (decide_eq_true rfl)]
theorem eQ {k x:Str}{d:Addr}{D:List (Str×Addr)}{o:Option Addr}(h:¬k=x)(e:KTD.datumAt k D=o):KTD.datumAt k ((x,d)::D)=o:=by
 show (if decide (k=x)=true then some d else KTD.datumAt k D)=o
 rw [if_neg (by rw [decide_eq_false h];decide)]
 exact e
theorem uY.at_ {K:IC}{mg:Str->Option Value}{aD d0 d1 d2 d3 d4:Addr}(G:uY K mg aD d0 d1 d2 d3 d4)(d:cH) :
  ∃s,KTD.datumAt (wD d) [(("put" : Str),d0),("copy",d1),("add",d2),("read",d3),("tell",d4)]=some s/\KTup K s (kD d):=by
 cases d with
 | put x n=>exact⟨d0,kW,G.q0⟩
 | copy x y=>exact⟨d1,eQ (show ¬(("copy" : Str) = "put") by decide +kernel) kW,G.q1⟩
 | add x n=>exact⟨d2,eQ (show ¬(("add" : Str) = "put") by decide +kernel) (eQ (show ¬(("add" : Str) = "copy") by decide +kernel) kW),G.q2⟩
 | read x=>exact⟨d3,eQ (show ¬(("read" : Str) = "put") by decide +kernel) (eQ (show ¬(("read" : Str) = "copy") by decide +kernel) (eQ (show ¬(("read" : Str) = "add") by decide +kernel) kW)),G.q3⟩
 | tell x=>exact⟨d4,eQ (show ¬(("tell" : Str) = "put") by decide +kernel) (eQ (show ¬(("tell" : Str) = "copy") by decide +kernel) (eQ (show ¬(("tell" : Str) = "add") by decide +kernel) (eQ (show ¬(("tell" : Str) = "read") by decide +kernel) kW))),G.q4⟩
theorem Cf (acc ys:List Str):(ys.map (Sum.inr:Str->Key)).foldl LS.putIn (acc.map Sum.inr)=(ys.foldl LS.putIn acc).map Sum.inr:=by
 induction ys generalizing acc with
 | nil=>rfl
 | cons y ys ih =>
  rw [Jj,Ke,Ke,<-ih]
  congr 1
  unfold LS.putIn
  by_cases h:y∈acc
  ·rw [if_pos h,if_pos (IS.mpr ⟨y,h,rfl⟩)]
  ·rw [if_neg h,if_neg (fun z=>by obtain⟨x,hx,e⟩:=IS.mp z;cases e;exact h hx),IT];rfl
theorem yZ (ys:List Str):cD (ys.map (Sum.inr:Str->Key))=(cD ys).map Sum.inr:=Cf [] ys
theorem DZ (ys:List Str):(ys.map (Sum.inr:Str->Key)).map kV=ys.map V.str:=by rw [JN];rfl
theorem j3 {xs:List Str}{m:Nat}{ps:List Piece}(ok:bY xs m ps):∀x∈ba ps,x∈xs:=fun x hx=>by
 obtain⟨p,hp,hx⟩:=J4.mp hx
 rcases IV.mp hx with h | h
 ·obtain⟨d,hd,h⟩:=J4.mp h
  have dk:=(ok.fb p hp).2 d hd
  cases d with
  | put a n=>rw [IH.mp h];exact dk.1
  | copy a b =>
   rcases IE.mp h with rfl | h
   ·exact dk.1
   ·rw [IH.mp h];exact dk.2
  | add a n=>rw [IH.mp h];exact dk.1
  | read a=>rw [IH.mp h];exact dk
  | tell a=>rw [IH.mp h];exact dk
 ·have ek:=ok.ends p hp
  obtain⟨ds,e⟩:=p
  cases e with
  | stop=>cases h
  | go q=>cases h
  | cC b a n q r=>rw [IH.mp h];exact ek.1
theorem j4 {α β : Type}{l:List α}{f:α->List β}{i:Nat}{x:α}(h:l[i]?=some x):(l.take (i+1)).flatMap f=(l.take i).flatMap f++f x:=by
 rw [Ju,h,List.flatMap_append];simp
theorem mE {α β : Type}{l:List α}{f:α->List β}(i:Nat):((l.take i).flatMap f).length<=(l.flatMap f).length:=by
 conv=>rhs;rw [<-List.take_append_drop i l,List.flatMap_append,IJ]
 exact JL _ _
inductive tY  (vs:List V) (H:Hp) (Q:VK) (_:XK):Prop
 | mk (plv:V) (ps:List Piece) (xs:List Str) (m:Nat) (_:vs=[plv]) (_:aJ H plv (bM ps)) (_:bY xs m ps) (_:xs.length<64) (_:(ba ps).length<=4000) (_:∀(t:Addr) (ss:List Str) (H':Hp),H' t=some (.tup (ss.map V.str))->ss.Perm (cD (ba ps))->sortedS ss=true->ss.length<64->af H H'->Q (.ref t) H')
theorem pV {xs:List Str}{m:Nat}{ps:List Piece}(ok:bY xs m ps):(cD (ba ps)).length<=xs.length :=
 sub_len (pU _) fun x hx=>j3 ok x (j2.mp hx)
end L2
namespace PySem
theorem uG:typeLookup (.type "tuple") "keys" = pure none:=by rw [typeLookup_type,builtinLookup_eq_fast];kernel_rfl
section
variable {prog:Program}{w:World}{A:Around}{E:Value->Shared->Prop}{s:Shared}
theorem uH {a:Addr}{xs:Array Value}{k:Nat}{sl:Array (Option Value)}{name:Str}{u:Tok}{Q:Value->Shared->Prop}(hx:s.heap.get? a=some { cls:=.type "tuple",dict:=none,data:=.seq xs k,slots:=sl })
  (miss:typeLookup (.type "tuple") name=pure none) (plain:(["__module__", "__name__", "__qualname__", "__doc__", "__annotations__"]:List Str).contains name=false) (calm:A.handled=none) (fits:name.length+100<=sizeLine)
  (fin:∀g tk e,Heap.NewExcOf s.heap g e "AttributeError" -> E (.ref e) { s with heap:=g,toks:=tk }):wpAny (model prog w) A (getAttrBy (.ref a) (.str name u) false) Q E s:=by
 obtain⟨hp,gs,dr,tk,os⟩:=s
 have hT:∀tk',(⟨hp,gs,dr,tk',os⟩:Shared).TypeIs (.ref a) "tuple" := fun _=>⟨_,hx,rfl⟩
 have f1:=sub_AttributeError
 have f3:=F.slot_tuple_getattribute.lookup
 have f4:=F.slot_tuple_getattribute.bind (.ref a)
 have f5:=am_tuple_getattr_none
 unfold getAttrBy
 repeat (any_goals (first | exact hT _ | assumption | ((with_reducible show wpAny _ _ (call (Value.builtin "tuple.__getattribute__") _ _) _ _ _);refine call_meets F.slot_tuple_getattribute (hT _) am_entry_tuple_getattribute (F.args_tuple_getattribute_2 _ _) (meets_getattribute_miss_tuple a xs k sl name _ miss plain fits) ⟨hx,calm,fun g t e ne=>?_⟩) | wp_step))
 obtain⟨t',u',there⟩:=ne.there
 show wpAny _ _ (getattributeRaised _ _ _ _ _ _ _) _ _ _
 unfold getattributeRaised
 repeat (any_goals (first | wp_step | assumption))
 exact fin g _ e ne.of
theorem qY {a:Addr}{xs:Array Value}{k:Nat}{sl:Array (Option Value)}{Q:Option Value->Shared->Prop}(hx:s.heap.get? a=some { cls:=.type "tuple",dict:=none,data:=.seq xs k,slots:=sl })(calm:A.handled=none)
  (fin:∀g tk,(∀b o,s.heap.get? b=some o->g.get? b=some o)->Q none { s with heap:=g,toks:=tk }):wpAny (model prog w) A (getAttr? (.ref a) "keys") Q E s:=by
 unfold getAttr? getAttrBy?
 refine Lo (wpAny_mkText ?_)
 refine Lo (LD ?_)
 refine uH (s:={ s with toks:=s.toks+1 }) hx uG (by decide +kernel) calm (by decide +kernel) fun g tk e ne=>?_
 obtain⟨ob,vs,he,hc,_⟩:=ne.there
 have hT:({ s with heap:=g,toks:=tk }:Shared).TypeIs (.ref e) "AttributeError" := ⟨ob,he,hc⟩
 refine Lo (LO hT sub_AttributeError ?_)
 exact Lq (fin g tk ne.keeps)
end
end PySem
namespace PySem
theorem kX:entryFor table "dict.update.loop" = some Builtin.«dict.update.loop»:=entryFor_of_tree (by kernel_rfl)
theorem fQ:plainId "dict.update.loop" = true:=by decide +kernel
section
variable {prog:Program}{w:World}{K:Type}[DecidableEq K]{knd:KeyKind prog w K}{A:Around}{s:Shared}
def vP (knd:KeyKind prog w K)(h:Heap)(q:Addr)(p:K×Value):Prop:=∃key n sl,h.get? q=some { cls:=.type "tuple",dict:=none,data:=.seq #[key,p.2] n,slots:=sl }/\knd.is p.1 key=true
theorem uI {E:Value->Shared->Prop}{q:Addr}{x y:Value}{n:Nat}{sl:Array (Option Value)}{Q:List Value->Shared->Prop}(hq:s.heap.get? q=some { cls:=.type "tuple",dict:=none,data:=.seq #[x,y] n,slots:=sl })
  (fin:Q [x,y] s):wpAny (model prog w) A (Builtin.Dict.pairItems (.ref q)) Q E s:=by
 have hT:s.TypeIs (.ref q) "tuple" := ⟨_,hq,rfl⟩
 unfold Builtin.Dict.pairItems
 refine Lo (LK hT ?_)
 rw [if_pos (by decide)]
 unfold seqItems?
 obtain⟨hp,gs,dr,tk,os⟩:=s
 repeat (any_goals (first | wp_step | assumption))
theorem y3 {E:Value->Shared->Prop}{d I ax:Addr}{items:Array Value}{rs:List (K×Value)}{R:Result->Shared->Prop}{h0:Heap}(calm:A.handled=none)(ndI:d≠I)(nda:d≠ax)(nax:ax≠I)(len:rs.length=items.size)(b8:rs.length<=sizeLine)
  (pairs:∀(i:Nat) (p:K×Value),rs[i]?=some p->∃q,items[i]?=some (.ref q)/\q≠d/\q≠I/\vP knd h0 q p)
  (fin:∀(g:Heap) (tk:Nat),g.DictOf knd d (merged [] rs)->(∀b o,b≠d->b≠I->h0.get? b=some o->g.get? b=some o)->R (.ok (.ret .none)) { s with heap:=g,toks:=tk }) :
  ∀(m i:Nat) (h:Heap) (tk:Nat) (t:Tok),rs.length-i=m->i<=rs.length->h.IsTupleIter I ax i->h.IsTuple ax items->h.DictOf knd d (merged [] (rs.take i))->(∀b o,b≠d->b≠I->h0.get? b=some o->h.get? b=some o) ->
   codeAny (model prog w) A (.builtin "dict.update.loop" ⟨[.ref d,.ref I,.int i t,.none],[]⟩) R { s with heap:=h,toks:=tk }:=by
 have W:=Walks.tuple (prog:=prog) (w:=w) (A:=A.in1) calm I ax nax items
 intro m
 induction m with
 | zero =>
  intro i h tk t em hi it ta dd kp
  have ei:i=rs.length:=by omega
  subst ei
  refine Ly kX ?_
  rw [JM fQ _]
  show wpAny _ A.in1 (pyNext (.ref I) >>= _) _ _ _
  refine Lo (W.done { s with heap:=h,toks:=tk } _ _ ⟨by rw [<-len];exact it,ta⟩ fun g tk' kg=>?_)
  show wpAny _ A.in1 (Builtin.Dict.addKeywords d [] >>= fun _=>ret Value.none) _ _ _
  refine Lo (Lq ?_)
  refine Lq (fin g tk' ?_ fun b o n1 n2 e=>kg b o (by simpa using n2) (kp b o n1 n2 e))
  rw [Jn] at dd
  obtain⟨ob,es,ep,ho,rest⟩:=dd
  exact⟨ob,es,ep,kg d ob (by simpa using ndI) ho,rest⟩
 | succ m ih =>
  intro i h tk t em hi it ta dd kp
  have hlt:i<rs.length:=by omega
  have hp:rs[i]?=some rs[i]:=by simp [hlt]
  generalize rs[i]=p at hp
  obtain⟨q,hq,nqd,nqI,key,n,sl,hqo,hkey⟩:=pairs i p hp
  refine Ly kX ?_
  rw [JM fQ _]
  show wpAny _ A.in1 (pyNext (.ref I) >>= _) _ _ _
  refine Lo (W.item i { s with heap:=h,toks:=tk } _ _ (by omega) ⟨it,ta⟩ fun v g tk' hv st kg=>?_)
  rw [hq] at hv
  cases hv
  have kp':∀b o,b≠d->b≠I->h0.get? b=some o->g.get? b=some o:=fun b o n1 n2 e=>kg b o (by simpa using n2) (kp b o n1 n2 e)
  refine Lo (Ls (Lo (wpAny_tryCatch (uI (kp' q _ nqd nqI hqo) ?_))))
  have dd':g.DictOf knd d (merged [] (rs.take i)):=by
   obtain⟨ob,es,ep,ho,rest⟩:=dd
   exact⟨ob,es,ep,kg d ob (by simpa using ndI) ho,rest⟩
  refine Ls (wpAny_dictSet_pairs hkey dd' (fun g2 dd2 same=>?_) ?_)
  ·refine Lq ⟨plainId_quiet fQ _,?_⟩
   rw [<-merged_take_succ [] rs i p hp] at dd2
   have k2:∀b o,b≠d->g.get? b=some o->g2.get? b=some o:=fun b o nb e=>(same.2 b nb).trans e
   refine ih (i+1) g2 _ _ (by omega) hlt ?_ ?_ dd2 fun b o n1 n2 e=>k2 b o n1 (kp' b o n1 n2 e)
   ·exact st.1.at fun o e=>k2 I o ndI.symm e
   ·exact st.2.at fun o e=>k2 ax o nda.symm e
  ·have e:=merged_length_le ([]:List (K×Value)) (rs.take i)
   rw [Jm] at e
   simp only [KR] at e
   omega
open PySem.Calls in
theorem uJ {E:Value->Shared->Prop}{ax:Addr}{items:Array Value}{na:Nat}{sa:Array (Option Value)}{rs:List (K×Value)}{Q:Value->Shared->Prop}(calm:A.handled=none)
  (hx:s.heap.get? ax=some { cls:=.type "tuple",dict:=none,data:=.seq items na,slots:=sa }) (len:rs.length=items.size) (b8:rs.length<=sizeLine)
  (pairs:∀(i:Nat) (p:K×Value),rs[i]?=some p->∃q,items[i]?=some (.ref q)/\vP knd s.heap q p)
  (fin:∀(g:Heap) (tk:Nat),g.DictOf knd s.heap.objs.size (merged [] rs)->(∀b o,s.heap.get? b=some o->g.get? b=some o)->Q (.ref s.heap.objs.size) { s with heap:=g,toks:=tk }) :
  wpAny (model prog w) A (call (.type "dict") [.ref ax]) Q E s:=by
 refine callType_codes (Q₁:=fun ob s1=>ob=.ref s.heap.objs.size/\s1={ s with heap:=s.heap.push { cls:=.type "dict",data:=.dict #[] } }) F.kt_called_dict (F.kt_typeCall_dict_1 _) F.entry_dict_init (kt_code_dict_new _ ⟨rfl,rfl⟩) fun ob s1 e1=>?_
 obtain⟨rfl,rfl⟩:=e1
 have fresh:(s.heap.push { cls:=.type "dict",data:=.dict #[] }).DictOf knd s.heap.objs.size []:=Heap.DictOf.new s.heap
 have hx1:=II { cls:=.type "dict",data:=.dict #[] } hx
 refine⟨fresh.typeIs,F.args_dict_init_2 _ _,?_⟩
 have hT:({ s with heap:=s.heap.push { cls:=.type "dict",data:=.dict #[] } }:Shared).TypeIs (.ref ax) "tuple" := ⟨_,hx1,rfl⟩
 unfold Builtin.«dict.__init__»
 refine Lo ?_
 unfold Builtin.Dict.selfAndRest
 refine Lo (wpAny_notOrdered_dict fresh.typeIs (Lq ?_))
 show wpAny _ _ (Builtin.Dict.updateFrom "dict.__init__" s.heap.objs.size (.ref ax) [] .none) _ _ _
 unfold Builtin.Dict.updateFrom
 refine Lo (LK hT ?_)
 rw [if_pos (by decide)]
 refine Lo (qY hx1 calm fun g tk kg=>?_)
 rw [if_pos (show (none:Option Value).isNone=true from rfl)]
 refine Lo (LA ?_)
 have hxg:=kg _ _ hx1
 have hta:g.IsTuple ax items:=⟨_,hxg,rfl,na,rfl⟩
 refine Lo (LJ hta ?_)
 have dg:g.DictOf knd s.heap.objs.size []:=by
  obtain⟨ob,es,ep,ho,rest⟩:=fresh
  exact⟨ob,es,ep,kg _ _ ho,rest⟩
 have ltd:s.heap.objs.size<g.objs.size:=by
  obtain⟨ob,es,ep,ho,rest⟩:=dg
  exact IG ho
 have lta:ax<g.objs.size:=IG hxg
 have ltx:ax<s.heap.objs.size:=IG hx
 have kg':∀b o,s.heap.get? b=some o->(g.push { cls:=.type "tuple_iterator",data:=.fields #[.ref ax,.int 0 0] }).get? b=some o:=fun b o e=>II _ (kg b o (II _ e))
 refine Lq ⟨plainId_quiet fQ _,?_⟩
 refine y3 (E:=E) (knd:=knd) (s:=s) (A:=A.in1) (items:=items) (rs:=rs) (h0:=g.push { cls:=.type "tuple_iterator",data:=.fields #[.ref ax,.int 0 0] }) calm (IL ltd) (JB ltx) (IL lta) len b8 (fun i p hp=>?_) (fun g2 tk2 dd2 k2=>⟨rfl,fin g2 tk2 dd2 fun b o e=>k2 b o (IL (IG e)) (IL (Kp (IG e) ltd)) (kg' b o e)⟩) rs.length 0 _ _ _ (Nat.sub_zero _) (Jc _) ⟨_,IK _ rfl,rfl,rfl⟩ (hta.push _) (dg.push _) fun b o _ _ e=>e
 obtain⟨q,hq,key,n,sl,hqo,hkey⟩:=pairs i p hp
 have hql:=IG hqo
 exact⟨q,hq,IL hql,IL (Kp hql ltd),key,n,sl,kg' q _ hqo,hkey⟩
end
end PySem
namespace L2
open PySem PySem.Spec PyProof.Rows
theorem De:∀(kvs:List (Key×V)) (P:Nat->Key×Value->Prop),(∀(i:Nat) (k:Key) (v:V),kvs[i]?=some (k,v)->∃u,RelV v u/\P i (k,u))->∃rs:List (Key×Value),KV kvs rs/\∀(i:Nat) (p:Key×Value),rs[i]?=some p->P i p
 | [],_,_=>⟨[],.nil,fun i p h=>by simp at h⟩
 | (k,v)::r,P,h=>by
  obtain⟨u,ru,hu⟩:=h 0 k v rfl
  obtain⟨rs,kr,hr⟩:=De r (fun i=>P (i+1)) fun i k' v' e=>h (i+1) k' v' (by simpa using e)
  refine⟨(k,u)::rs,.cons ⟨rfl,ru⟩ kr,fun i p e=>?_⟩
  cases i with
  | zero=>cases (IU.inj e);exact hu
  | succ i=>exact hr i p (by simpa using e)
theorem pW:∀{xs:List V} {us:List Value} {j:Nat} {x:V},Vals xs us->xs[j]?=some x->∃u,us[j]?=some u/\RelV x u
 | _,_,_,_,.nil,e=>by simp at e
 | _,_,0,_,.cons r _,e=>by
  cases (IU.inj e)
  exact⟨_,rfl,r⟩
 | _,_,j+1,x,.cons _ t,e=>by
  obtain⟨u,h1,h2⟩:=pW (j:=j) (x:=x) t (by simpa using e)
  exact⟨u,by simpa using h1,h2⟩
section
variable {X:Cx}
theorem fw (hc:X.calm=true):dU X (.type "dict") (fun vs H Q=>∃(a:Addr) (xs:List V) (kvs:List (Key×V)),vs=[.ref a]/\H a=some (.tup xs)/\xs.length=kvs.length /\
  (∀(i:Nat) (k:Key) (v:V),kvs[i]?=some (k,v)->∃q,xs[i]?=some (.ref q)/\H q=some (.tup [kV k,v]))/\(kvs.map (·.1)).Nodup/\∀d,H d=none->Q (.ref d) (upd H d (.dK kvs))):=by
 intro pins s IA H vs us Q I r h
 obtain⟨a,xs,kvs,rfl,ha,hl,hp,nd,q⟩:=h
 obtain⟨u,rfl,ru⟩:=vals1 r
 cases (show u=Value.ref a from ru)
 obtain⟨hz,its,rv,⟨c,dct,dat,sl⟩,h1,h2,n,h3,h4⟩:=(show bN X.prog X.w H s.heap a (.tup xs) from I.aN a _ ha)
 dsimp only at h2 h3 h4
 subst h2 h3 h4
 have hil:its.length=kvs.length:=by rw [<-rv.length];exact hl
 obtain⟨rs,rel,prs⟩:=De kvs (fun i p=>∃q,its.toArray[i]?=some (.ref q)/\vP (aT X.prog X.w) s.heap q p) fun i k v e=>by
  obtain⟨q,e1,e2⟩:=hp i k v e
  obtain⟨_,its2,rv2,⟨c2,dct2,dat2,sl2⟩,g1,g2,n2,g3,g4⟩:=(show bN X.prog X.w H s.heap q (.tup [kV k,v]) from I.aN q _ e2)
  dsimp only at g2 g3 g4
  subst g2 g3 g4
  obtain⟨key,u2,rfl,rk,ru2⟩:=vals2 rv2
  refine⟨u2,ru2,q,?_,key,n2,sl2,g1,qI rk⟩
  obtain⟨w',hw,rw'⟩:=pW rv e1
  cases (show w' = Value.ref q from rw')
  simpa using hw
 have hkl:kvs.length<=sizeLine:=by rw [<-hl];exact hz
 have ndr:(rs.map (·.1)).Nodup:=by rw [<-rel.keys];exact nd
 refine uJ (knd:=aT X.prog X.w) (rs:=rs) (I.ok.hd hc) h1 (by rw [<-rel.length,<-hil];simp) (by rw [<-rel.length];exact hkl) prs fun g tk dd kg=>?_
 rw [merged_nil_of_nodup rs ndr] at dd
 exact⟨.ref s.heap.objs.size,_,I.laid (a:=s.heap.objs.size) (o:=.dK kvs) (t':=tk) kg (IF _) (Ac hkl (beq_eq_false_iff_ne.mpr (Ne.symm (IL I.big))) rel dd),rfl,q _ (I.aN.fresh (IF _))⟩
theorem all_range (bs:List Bool):((Js bs.length).all fun i=>(bs[i]?).getD true)=bs.all id:=by
 rw [Kk]
 simp only [Ki,JV]
 constructor
 ·intro h b hb
  obtain⟨i,hi,rfl⟩:=List.getElem_of_mem hb
  have:=h i hi
  simpa [hi] using this
 ·intro h i hi
  have:=h bs[i] (KO hi)
  simpa [hi] using this
theorem Az (hc:X.calm=true):dU X (.builtin "all") (fun vs H Q=>∃(p:Addr) (bs:List Bool),vs=[.ref p]/\aO X.K H p (bs.map V.bl)/\Q (.bl (bs.all id)) H):=by
 intro pins s IA H vs us Q I r h
 obtain⟨p,bs,rfl,hS,q⟩:=h
 obtain⟨u,rfl,ru⟩:=vals1 r
 cases (show u=Value.ref p from ru)
 obtain⟨its,rv,pl,hz⟩:=I.list hS
 have hl:=pl.isList
 have hlt:p<s.heap.objs.size:=by
  obtain⟨_,e,_⟩:=hl
  exact IG e
 have hsz:its.toArray.size=bs.length:=by
  have:=rv.length
  simp at this
  simp [this]
 refine call_all_walk (L1 hl ?_)
 refine⟨s.heap.objs.size,[s.heap.objs.size,p],[s.heap.objs.size],its.toArray.size,_,_,fun j=>(bs[j]?).getD true,rfl,Walks.list (A:=X.A.in1) (I.ok.hd hc) _ p (IL hlt) its.toArray,
  ⟨⟨_,IK _ rfl,rfl,rfl⟩,hl.push _⟩,fun j v t Q' E' hP hQ=>?_,fun g tk hk=>?_⟩
 ·have hj:its[j]?=some v:=by simpa using hP
  have hjl:j<bs.length:=by
   have:=(IY.mp hj).1
   rw [<-rv.length,ID] at this
   exact this
  have hb:bs[j]?=some bs[j]:=by simp [hjl]
  obtain⟨w',hw,rw'⟩:=pW (j:=j) (x:=V.bl bs[j]) rv (by rw [IZ,hb];rfl)
  rw [hj] at hw
  cases hw
  cases (show v=Value.bool bs[j] from rw')
  have hQ':Q' ((bs[j]?).getD true) t:=hQ
  rw [hb] at hQ'
  exact Lz hQ'
 ·refine⟨.bl (bs.all id),H,?_,?_,q⟩
  ·refine I.kept (t':=tk) fun b o e=>hk b o (fun hm=>?_) (II _ e)
   rw [IH.mp hm] at e
   exact Jd _ (IG e)
  ·show _=Value.bool (bs.all id)
   rw [hsz,all_range]
end
def qZ (a b:Str):Prop:=a.cps.toList<=b.cps.toList
theorem AA {a b c:Str}(h:qZ a b)(g:qZ b c):qZ a c:=List.le_trans h g
theorem Cg {a b:Str}(h:qZ a b)(g:qZ b a):a=b:=by
 have e:a.cps.toList=b.cps.toList:=List.le_antisymm h g
 have e2:a.cps=b.cps:=by rw [<-Array.toArray_toList (xs:=a.cps),e,Array.toArray_toList]
 cases a
 cases b
 cases e2
 rfl
theorem tZ:∀(l:List Str) (p:Str),risingS p l=true->(p::l).Pairwise qZ
 | [],p,_=>by simp
 | x::r,p,h=>by
  have h':(!ltCps x.cps.toList p.cps.toList&&risingS x r)=true:=h
  rw [Jp,Bool.not_eq_true'] at h'
  have h1:qZ p x:=by
   have:=h'.1
   rw [ltCps_eq] at this
   exact of_decide_eq_false this
  have ih:=tZ r x h'.2
  refine J0.cons (fun y hy=>?_) ih
  rcases IE.mp hy with e | hy
  ·rw [e];exact h1
  ·exact AA h1 ((K4.mp ih).1 y hy)
theorem t6 {l:List Str}(h:sortedS l=true):l.Pairwise qZ:=by
 cases l with
 | nil=>exact J0.nil
 | cons x r=>exact tZ r x h
structure j5 (ss:List Str):Prop where
 pw:ss.Pairwise qZ
 nd:ss.Nodup
theorem j5.tail {x:Str}{r:List Str}(h:j5 (x::r)):j5 r:=⟨(K4.mp h.pw).2,(JQ.mp h.nd).2⟩
theorem j5.unique:∀{l m:List Str},j5 l->j5 m->(∀x,x∈l↔x∈m)->l=m
 | [],[],_,_,_=>rfl
 | [],b::m,_,_,h=>absurd ((h b).mpr (IP ..)) (by simp)
 | a::l,[],_,_,h=>absurd ((h a).mp (IP ..)) (by simp)
 | a::l,b::m,hl,hm,h=>by
  have e:a=b:=by
   rcases IE.mp ((h a).mp (IP ..)) with e | h1
   ·exact e
   ·rcases IE.mp ((h b).mpr (IP ..)) with e | h2
    ·exact e.symm
    ·exact Cg ((K4.mp hl.pw).1 b h2) ((K4.mp hm.pw).1 a h1)
  subst e
  have na:=(JQ.mp hl.nd).1
  have nb:=(JQ.mp hm.nd).1
  rw [j5.unique hl.tail hm.tail fun x=>⟨fun hx=>?_,fun hx=>?_⟩]
  ·rcases IE.mp ((h x).mp (IM _ hx)) with e | h1
   ·exact absurd (by rw [<-e];exact hx) na
   ·exact h1
  ·rcases IE.mp ((h x).mpr (IM _ hx)) with e | h1
   ·exact absurd (by rw [<-e];exact hx) nb
   ·exact h1
theorem j5.filter {l:List Str}(h:j5 l)(p:Str->Bool):j5 (l.filter p):=⟨h.pw.filter p,h.nd.filter p⟩
abbrev Sx:=Option Int×Option Int
def dX:Sx:=(none,none)
structure iH (K:IC) (mg:Str->Option Value) (aA:Addr):Prop where
 qR:mg "ALL" = some (.ref aA)
 at_:∃dc n sl,K.lookup aA=some ⟨.type "tuple",dc,.seq #[.none,.none] n,sl⟩
theorem iH.sq {K:IC}{mg:Str->Option Value}{aA:Addr}(h:iH K mg aA)(H:Hp):aw K H aA [.bg,.bg]:=by
 obtain⟨dc,n,sl,e⟩:=h.at_
 exact .inr ⟨_,#[.none,.none],n,e,rfl,rfl,by decide,.cons rfl (.cons rfl .nil)⟩
def SH (H:Hp)(v:V)(s:Sx):Prop:=∃q,v=.ref q/\H q=some (.tup [vO s.1,vO s.2])
def SV (aA:Addr)(H:Hp)(v:V)(s:Sx):Prop:=SH H v s\/(v=.ref aA/\s=dX)
def dS (s:Sx):PyData:=.tuple [dO s.1,dO s.2]
theorem SH.rd {H:Hp}{v:V}{s:Sx}(h:SH H v s):aJ H v (dS s):=by
 obtain⟨q,rfl,e⟩:=h
 exact .tup e (.cons (Fy _) (.cons (Fy _) .nil))
theorem SH.av {H H':Hp}{v:V}{s:Sx}(h:SH H v s)(k:∀p xs,H p=some (.tup xs)->H' p=some (.tup xs)):SH H' v s:=by
 obtain⟨q,e,h⟩:=h
 exact⟨q,e,k _ _ h⟩
theorem SV.av {aA:Addr}{H H':Hp}{v:V}{s:Sx}(h:SV aA H v s)(k:∀p xs,H p=some (.tup xs)->H' p=some (.tup xs)):SV aA H' v s:=h.elim (fun h=>.inl (h.av k)) .inr
theorem SV.sq {K:IC}{mg:Str->Option Value}{aA:Addr}{H:Hp}{v:V}{s:Sx}(g:iH K mg aA)(h:SV aA H v s):∃q,v=.ref q/\aw K H q [vO s.1,vO s.2]:=by
 rcases h with ⟨q,e,h⟩ | ⟨e,rfl⟩
 ·exact⟨q,e,aw.of h⟩
 ·exact⟨aA,e,g.sq H⟩
theorem oG {H:Hp}{v:V}{o:Option Int}(h:aJ H v (dO o)):v=vO o:=by
 cases o with
 | none=>cases h;rfl
 | some i=>exact h.int_inv
structure Tb (aA:Addr) (H:Hp) (kvs:List (Key×V)) (ks:List Str) (T:Str->Sx):Prop where
 keys:kvs.map (·.1)=ks.map Sum.inr
 nd:ks.Nodup
 val:∀x:Str,(dm kvs (Sum.inr x)=none/\T x=dX/\¬x∈ks)\/(∃v,dm kvs (Sum.inr x)=some v/\SV aA H v (T x)/\x∈ks)
def dY (T:Str->Sx)(x:Str)(s:Sx):Str->Sx:=fun y=>if y=x then s else T y
theorem Tb.av {aA:Addr}{H H':Hp}{kvs:List (Key×V)}{ks:List Str}{T:Str->Sx}(h:Tb aA H kvs ks T)(k:∀p xs,H p=some (.tup xs)->H' p=some (.tup xs)):Tb aA H' kvs ks T :=
 ⟨h.keys,h.nd,fun x=>(h.val x).elim .inl fun ⟨v,e,s,m⟩=>.inr ⟨v,e,s.av k,m⟩⟩
theorem Tb.put {aA:Addr}{H:Hp}{kvs:List (Key×V)}{ks:List Str}{T:Str->Sx}(h:Tb aA H kvs ks T){v:V}{s:Sx}(x:Str)(hv:SV aA H v s) :
  ∃ks',Tb aA H (putK kvs (Sum.inr x) v) ks' (dY T x s)/\ks'.length<=ks.length+1/\∀y,y∈ks'↔y∈ks\/y=x:=by
 have vals:∀(ks':List Str),(∀y,y∈ks'↔y∈ks\/y=x)->∀y:Str,(dm (putK kvs (Sum.inr x) v) (Sum.inr y)=none/\dY T x s y=dX/\¬y∈ks')\/(∃u,dm (putK kvs (Sum.inr x) v) (Sum.inr y)=some u/\SV aA H u (dY T x s y)/\y∈ks'):=by
  intro ks' hk y
  rw [BK]
  unfold dY
  by_cases e:y=x
  ·subst e
   rw [if_pos rfl,if_pos rfl]
   exact .inr ⟨v,rfl,hv,(hk y).mpr (.inr rfl)⟩
  ·rw [if_neg (fun z=>e (Sum.inr.inj z)),if_neg e]
   rcases h.val y with ⟨a,b,c⟩ | ⟨u,a,b,c⟩
   ·exact .inl ⟨a,b,fun z=>((hk y).mp z).elim c e⟩
   ·exact .inr ⟨u,a,b,(hk y).mpr (.inl c)⟩
 rcases tW (kvs:=kvs) (k:=(Sum.inr x:Key)) (v:=v) with ⟨e1,hm⟩ | ⟨e1,hn⟩
 ·have hx:x∈ks:=by
   rw [h.keys] at hm
   obtain⟨y,hy,e⟩:=IS.mp hm
   cases e
   exact hy
  have hk:∀y,y∈ks↔y∈ks\/y=x:=fun y=>⟨.inl,fun z=>z.elim id fun e=>by rw [e];exact hx⟩
  exact⟨ks,⟨by rw [e1];exact h.keys,h.nd,vals ks hk⟩,JI _,hk⟩
 ·have hx:¬x∈ks:=fun z=>hn (by rw [h.keys];exact IS.mpr ⟨x,z,rfl⟩)
  have hk:∀y,y∈ks++[x]↔y∈ks\/y=x:=fun y=>by simp
  refine⟨ks++[x],⟨by rw [e1,h.keys,IT];rfl,?_,vals _ hk⟩,by simp,hk⟩
  rw [Kh]
  refine⟨h.nd,by simp,fun a ha b hb=>?_⟩
  rw [IH] at hb
  subst hb
  exact fun z=>hx (by rw [<-z];exact ha)
def dF (T:Str->Sx)(x:Str):PyData:=.tuple [.str x,dS (T x)]
def FV (H:Hp)(v:V)(T:Str->Sx):Prop:=∃(p:Addr) (xs:List V) (ss:List Str),v=.ref p/\H p=some (.tup xs)/\j5 ss/\(∀x,x∈ss↔T x≠dX)/\aP H xs (ss.map (dF T))
def fH (T:Str->Sx)(ss:List Str):PyData:=.tuple (ss.map (dF T))
theorem lO (T:Str->Sx):∀ss:List Str,bB (ss.map (dF T))=true
 | []=>rfl
 | x::ss=>by
  show (bA (dF T x)&&bB (ss.map (dF T)))=true
  rw [lO T ss]
  show ((true&&((bA (dO (T x).1)&&(bA (dO (T x).2)&&true))&&true))&&true)=true
  cases (T x).1 <;> cases (T x).2 <;> rfl
theorem FV.av {H H':Hp}{v:V}{T:Str->Sx}(h:FV H v T)(k:∀p xs,H p=some (.tup xs)->H' p=some (.tup xs)):FV H' v T:=by
 obtain⟨p,xs,ss,e,hp,hs,hm,r⟩:=h
 exact⟨p,xs,ss,e,k _ _ hp,hs,hm,r.av k (lO T ss)⟩
theorem FV.same {H H':Hp}{v:V}{T:Str->Sx}(h:FV H v T)(s:af H H'):FV H' v T:=h.av fun p xs e=>s _ _ e
theorem FV.tb {H:Hp}{xs:List V}{T:Str->Sx}{ss:List Str}(aA:Addr)(hs:j5 ss)(hm:∀x,x∈ss↔T x≠dX)(r:aP H xs (ss.map (dF T))) :
  ∃kvs:List (Key×V),xs.length=kvs.length/\(∀(i:Nat) (k:Key) (v:V),kvs[i]?=some (k,v)->∃q,xs[i]?=some (.ref q)/\H q=some (.tup [kV k,v]))/\(kvs.map (·.1)).Nodup/\Tb aA H kvs ss T:=by
 have go:∀(ss:List Str) (xs:List V),aP H xs (ss.map (dF T))->∃kvs:List (Key×V),xs.length=kvs.length/\(∀(i:Nat) (k:Key) (v:V),kvs[i]?=some (k,v)->∃q,xs[i]?=some (.ref q)/\H q=some (.tup [kV k,v])) /\
   kvs.map (·.1)=ss.map Sum.inr/\∀x:Str,(dm kvs (Sum.inr x)=none/\¬x∈ss)\/(∃v,dm kvs (Sum.inr x)=some v/\SH H v (T x)/\x∈ss):=by
  intro ss
  induction ss with
  | nil =>
   intro xs r
   have z:=aP.nil_inv r
   subst z
   exact⟨[],rfl,fun i k v e=>by simp at e,rfl,fun x=>.inl ⟨rfl,by simp⟩⟩
  | cons y ss ih =>
   intro xs r
   obtain⟨x1,t1,rfl,h1,r⟩:=aP.cons_inv r
   obtain⟨kvs,l1,l2,l3,l4⟩:=ih t1 r
   obtain⟨q,zs,rfl,hq,rz⟩:=aJ.bH h1
   obtain⟨z1,t2,rfl,g1,rz⟩:=rz.cons_inv
   obtain⟨z2,t3,rfl,g2,rz⟩:=rz.cons_inv
   have z:=rz.nil_inv
   subst z
   obtain⟨q2,ws,rfl,hq2,rw2⟩:=aJ.bH g2
   obtain⟨w1,t4,rfl,f1,rw2⟩:=rw2.cons_inv
   obtain⟨w2,t5,rfl,f2,rw2⟩:=rw2.cons_inv
   have z:=rw2.nil_inv
   subst z
   have e1:w1=vO (T y).1:=oG f1
   have e2:w2=vO (T y).2:=oG f2
   subst e1 e2
   rw [g1.str_inv] at hq
   refine⟨(Sum.inr y,.ref q2)::kvs,by simp [l1],fun i k v e=>?_,by simp [l3],fun x=>?_⟩
   ·cases i with
    | zero=>cases (IU.inj e);exact⟨q,rfl,hq⟩
    | succ i =>
     obtain⟨q',a,b⟩:=l2 i k v (by simpa using e)
     exact⟨q',by simpa using a,b⟩
   ·by_cases e:x=y
    ·subst e
     exact .inr ⟨_,dM rfl,⟨q2,rfl,hq2⟩,IP ..⟩
    ·rw [dN (fun z=>e (Sum.inr.inj z).symm)]
     rcases l4 x with ⟨a,b⟩ | ⟨v,a,b,c⟩
     ·exact .inl ⟨a,fun z=>(IE.mp z).elim e b⟩
     ·exact .inr ⟨v,a,b,IM _ c⟩
 obtain⟨kvs,l1,l2,l3,l4⟩:=go ss xs r
 refine⟨kvs,l1,l2,?_,⟨l3,hs.nd,fun x=>?_⟩⟩
 ·rw [l3]
  exact J0.map _ (fun a b n z=>n (Sum.inr.inj z)) hs.nd
 ·rcases l4 x with ⟨a,b⟩ | ⟨v,a,b,c⟩
  ·refine .inl ⟨a,?_,b⟩
   exact Classical.byContradiction fun z=>b ((hm x).mpr z)
  ·exact .inr ⟨v,a,.inl b,c⟩
theorem Ea (s:Sx):PyData.eqv (dS s) (.tuple [.none,.none])=decide (s=dX):=by
 obtain⟨a,b⟩:=s
 cases a <;> cases b <;> rfl
theorem Df (s:Sx):(dS s).canLay0=true:=by
 obtain⟨a,b⟩:=s
 cases a <;> cases b <;> rfl
theorem GH (s:Sx):(dS s).depth<=60:=by
 obtain⟨a,b⟩:=s
 cases a <;> cases b <;> (show (1:Nat)<=60;decide)
section
variable {X:Cx}
theorem AB {pins:List (Addr×Obj)}{IA : St}{H:Hp}{s:Shared}{aA:Addr}(I:Inv X pins IA H s)(g:iH X.K X.mg aA):∃as,Reads s.heap (.ref aA) (.tuple [.none,.none]) as:=by
 obtain⟨dc,n,sl,e⟩:=g.at_
 exact⟨_,.tuple (I.fY aA _ e) rfl rfl (.cons .none (.cons .none .nil))⟩
theorem FG {aA:Addr}(hu:X.A.units+64<cLine)(g:iH X.K X.mg aA):dZ X (compareOp .NotEq) (fun x y H Q=>∃s,SV aA H x s/\y=.ref aA/\Q (.bl (!decide (s=dX))) H):=by
 intro pins sh IA H x y v u Q I rx ry h
 obtain⟨s,hs,rfl,q⟩:=h
 cases (show u=Value.ref aA from ry)
 obtain⟨bs,rb⟩:=AB I g
 rcases hs with hs | ⟨rfl,rfl⟩
 ·obtain⟨as,ra⟩:=hs.rd.reads I.aN rx
  refine PySem.SeqAt.neOverData X.prog X.w X.A X.xe sh v _ _ _ as bs _ ra rb (Df s) rfl (by have:=GH s;omega) ⟨.bl _,H,I,?_,q⟩
  show _=Value.bool (!decide (s=dX))
  rw [Ea]
 ·cases (show v=Value.ref aA from rx)
  exact PySem.SeqAt.neOverData X.prog X.w X.A X.xe sh _ _ _ _ bs bs _ rb rb rfl rfl (by show X.A.units+1<cLine;omega) ⟨.bl _,H,I,rfl,q⟩
end
inductive ng (aA:Addr) (vs:List V) (H:Hp) (Q:VK) (_:XK):Prop
 | mk (d:Addr) (kvs:List (Key×V)) (ks:List Str) (T:Str->Sx) (_:vs=[.ref d]) (_:H d=some (.dK kvs)) (_:Tb aA H kvs ks T) (_:ks.length<64) (_:∀v H',FV H' v T->af H H'->Q v H')
def Dg (o:Option Int)(n:Int):Option Int:=o.map (· + n)
def G1 (s:Sx)(n:Int):Sx:=(Dg s.1 n,Dg s.2 n)
def FH (T:Str->Sx):cH->Sx
 | .put _ n=>(some n,some n)
 | .copy _ y=>T y
 | .add x n=>G1 (T x) n
 | .read _=>dX
 | .tell x=>T x
def Ci (T:Str->Sx)(d:cH):Str->Sx:=dY T (eU d) (FH T d)
def cK (T:Str->Sx):List cH->(Str->Sx):=fun ds=>ds.foldl Ci T
inductive xM (K:IC) (vs:List V) (H:Hp) (Q:VK) (_:XK):Prop
 | mk (q:Addr) (s:Sx) (n:Int) (_:vs=[.ref q,.int n]) (_:aw K H q [vO s.1,vO s.2]) (_:∀v H',SH H' v (G1 s n)->af H H'->Q v H')
inductive rh (aA:Addr) (vs:List V) (H:Hp) (Q:VK) (_:XK):Prop
 | mk (d q:Addr) (kvs:List (Key×V)) (ks:List Str) (T:Str->Sx) (dd:cH) (_:vs=[.ref d,.ref q]) (_:H d=some (.dK kvs)) (_:Tb aA H kvs ks T) (_:H q=some (.tup (oA dd))) (_:∀v H',SV aA H' v (FH T dd)->af H H'->Q v H')
theorem FI:bootBuiltins "all" = some (.builtin "all"):=by decide +kernel
theorem Tb.getD {aA:Addr}{H:Hp}{kvs:List (Key×V)}{ks:List Str}{T:Str->Sx}(h:Tb aA H kvs ks T)(x:Str):∃v,(dm kvs (Sum.inr x)).getD (.ref aA)=v/\SV aA H v (T x):=by
 rcases h.val x with ⟨a,b,_⟩ | ⟨v,a,b,_⟩
 ·exact⟨_,by rw [a];rfl,.inr ⟨rfl,b⟩⟩
 ·exact⟨v,by rw [a];rfl,b⟩
theorem FJ {H:Hp}{v:V}{T:Str->Sx}{y:Str}(h:aJ H v (dF T y)):∃t q,v=.ref t/\H t=some (.tup [.str y,.ref q])/\H q=some (.tup [vO (T y).1,vO (T y).2]):=by
 obtain⟨t,zs,rfl,ht,rz⟩:=aJ.bH h
 obtain⟨z1,t2,rfl,g1,rz⟩:=rz.cons_inv
 obtain⟨z2,t3,rfl,g2,rz⟩:=rz.cons_inv
 have z:=rz.nil_inv
 subst z
 obtain⟨q2,ws,rfl,hq2,rw2⟩:=aJ.bH g2
 obtain⟨w1,t4,rfl,f1,rw2⟩:=rw2.cons_inv
 obtain⟨w2,t5,rfl,f2,rw2⟩:=rw2.cons_inv
 have z:=rw2.nil_inv
 subst z
 rw [g1.str_inv] at ht
 rw [oG f1,oG f2] at hq2
 exact⟨t,q2,rfl,ht,hq2⟩
section
variable {C D:Addr}{H0 H H1:Hp}{w0 w1:WA}{plv:V}{x0 x1 x':Fz}
end
mutual
def fe:PyData->Bool
 | .none=>true
 | .int _=>true
 | .str _=>true
 | .tuple xs=>dJ xs
 | _=>false
def dJ:List PyData->Bool
 | []=>true
 | x::xs=>fe x&&dJ xs
end
mutual
def uZ:PyData->Nat
 | .tuple xs=>nh xs+1
 | _=>1
def nh:List PyData->Nat
 | []=>0
 | x::xs=>uZ x+nh xs
end
noncomputable instance Ge:DecidableEq PyData:=fun a b=>Classical.propDecidable (a=b)
mutual
theorem xN:∀{a b:PyData},fe a=true->fe b=true->(PyData.eqv a b=true↔a=b)
 | .none,.none,_,_=>⟨fun _=>rfl,fun _=>rfl⟩
 | .int i,.int j,_,_=>by show ((i == j)=true)↔_;rw [beq_iff_eq];exact⟨fun h=>by rw [h],fun h=>by injection h⟩
 | .str x,.str y,_,_=>by show ((x == y)=true)↔_;rw [beq_iff_eq];exact⟨fun h=>by rw [h],fun h=>by injection h⟩
 | .tuple xs,.tuple ys,ha,hb=>by
  show (PyData.eqvAll xs ys=true)↔_
  rw [rm (show dJ xs=true from ha) (show dJ ys=true from hb)]
  exact⟨fun h=>by rw [h],fun h=>by injection h⟩
 | .none,.int _,_,_ | .none,.str _,_,_ | .none,.tuple _,_,_ | .int _,.none,_,_ | .int _,.str _,_,_ | .int _,.tuple _,_,_
 | .str _,.none,_,_ | .str _,.int _,_,_ | .str _,.tuple _,_,_ | .tuple _,.none,_,_ | .tuple _,.int _,_,_ | .tuple _,.str _,_,_=>⟨fun h=>(by cases h),fun h=>(by cases h)⟩
 | .bool _,_,h,_ | .list _,_,h,_ | .dict _,_,h,_=>by cases h
 | .none,.bool _,_,h | .none,.list _,_,h | .none,.dict _,_,h | .int _,.bool _,_,h | .int _,.list _,_,h | .int _,.dict _,_,h
 | .str _,.bool _,_,h | .str _,.list _,_,h | .str _,.dict _,_,h | .tuple _,.bool _,_,h | .tuple _,.list _,_,h | .tuple _,.dict _,_,h=>by cases h
theorem rm:∀{a b:List PyData},dJ a=true->dJ b=true->(PyData.eqvAll a b=true↔a=b)
 | [],[],_,_=>⟨fun _=>rfl,fun _=>rfl⟩
 | x::xs,y::ys,ha,hb=>by
  have ha:(fe x&&dJ xs)=true:=ha
  have hb:(fe y&&dJ ys)=true:=hb
  rw [Jp] at ha hb
  show ((PyData.eqv x y&&PyData.eqvAll xs ys)=true)↔_
  rw [Jp,xN ha.1 hb.1,rm ha.2 hb.2]
  exact⟨fun ⟨h1,h2⟩=>by rw [h1,h2],fun h=>by injection h with h1 h2;exact⟨h1,h2⟩⟩
 | [],_::_,_,_ | _::_,[],_,_=>⟨fun h=>(by cases h),fun h=>(by cases h)⟩
end
mutual
theorem t9 {h:Heap}:∀{v:Value} {a b:PyData} {as bs:List Addr},Reads h v a as->Reads h v b bs->fe a=true->fe b=true->a=b
 | _,_,_,_,_,.none,.none,_,_=>rfl
 | _,_,_,_,_,.int i t,.int _ _,_,_=>rfl
 | _,_,_,_,_,.str x t,.str _ _,_,_=>rfl
 | _,_,_,_,_,.tuple e1 c1 d1 r1,.tuple e2 c2 d2 r2,ha,hb=>by
  rw [e1] at e2
  cases e2
  rw [d1] at d2
  cases d2
  rw [nj r1 r2 ha hb]
 | _,_,_,_,_,.tuple e1 c1 d1 r1,.list e2 c2 d2 r2,_,hb=>by cases hb
 | _,_,_,_,_,.tuple e1 c1 d1 r1,.dict e2 c2 d2 r2 r3,_,hb=>by cases hb
 | _,_,_,_,_,.bool _,_,ha,_=>by cases ha
 | _,_,_,_,_,.list ..,_,ha,_=>by cases ha
 | _,_,_,_,_,.dict ..,_,ha,_=>by cases ha
theorem nj {h:Heap}:∀{vs:List Value} {a b:List PyData} {as bs:List Addr},ReadsAll h vs a as->ReadsAll h vs b bs->dJ a=true->dJ b=true->a=b
 | _,_,_,_,_,.nil,.nil,_,_=>rfl
 | _,_,_,_,_,.cons (d:=x) (ds:=xs) r1 t1,.cons (d:=y) (ds:=ys) r2 t2,ha,hb=>by
  have ha:(fe x&&dJ xs)=true:=ha
  have hb:(fe y&&dJ ys)=true:=hb
  rw [Jp] at ha hb
  rw [t9 r1 r2 ha.1 hb.1,nj t1 t2 ha.2 hb.2]
end
mutual
theorem rn {h h':Heap}(k:∀a o n vs,h.get? a=some o->o.data=.seq vs n->h'.get? a=some o):∀{v:Value} {a:PyData} {as:List Addr},Reads h v a as->fe a=true->Reads h' v a as
 | _,_,_,.none,_=>.none
 | _,_,_,.int i t,_=>.int i t
 | _,_,_,.str x t,_=>.str x t
 | _,_,_,.tuple e1 c1 d1 r1,ha=>.tuple (k _ _ _ _ e1 d1) c1 d1 (mF k r1 ha)
 | _,_,_,.bool _,ha=>by cases ha
 | _,_,_,.list ..,ha=>by cases ha
 | _,_,_,.dict ..,ha=>by cases ha
theorem mF {h h':Heap}(k:∀a o n vs,h.get? a=some o->o.data=.seq vs n->h'.get? a=some o):∀{vs:List Value} {a:List PyData} {as:List Addr},ReadsAll h vs a as->dJ a=true->ReadsAll h' vs a as
 | _,_,_,.nil,_=>.nil
 | _,_,_,.cons (d:=x) (ds:=xs) r1 t1,ha=>by
  have ha:(fe x&&dJ xs)=true:=ha
  rw [Jp] at ha
  exact .cons (rn k r1 ha.1) (mF k t1 ha.2)
end
section
variable {prog:Program}{w:World}{E:Value->Shared->Prop}
abbrev Dh (w:World)(d:PyData):Int:=PySem.W.hashW w.params (PySem.W.ofPy d)
mutual
theorem rA:∀(d:PyData) (v:Value) (as:List Addr) (A:Around) (s:Shared) (Q:Int->Shared->Prop),fe d=true->Reads s.heap v d as->A.units+d.depth<cLine ->
  Q (Dh w d) { s with toks:=s.toks+uZ d }->wpAny (model prog w) A (pyHash v) Q E s
 | .none,_,_,A,s,Q,_,x,hu,h=>by
  cases x
  exact PySem.W.pyHash_slot (T := "NoneType") rfl F.slot_NoneType_hash F.entry_NoneType_hash (F.args_NoneType_hash_1 _) (beq_builtin_none _) (.inr (by omega)) (Lo (Lq (Lo (wpAny_mkInt (Lq ⟨_,_,rfl,h⟩)))))
 | .int i,_,_,A,s,Q,_,x,_,h=>by
  cases x
  refine wpAny_pyHash_int ?_
  have e:=PySem.W.hashW_int w.params i
  rw [<-e]
  exact h
 | .str y,_,_,A,s,Q,_,x,_,h=>by cases x;exact L0 h
 | .tuple xs,_,_,A,s,Q,hk,x,hu,h=>by
  cases x with
  | @tuple a o vs n _ _ hg hc hd hw =>
   refine PySem.W.pyHash_slot (T := "tuple") ⟨_,hg,hc⟩ F.slot_tuple_hash F.entry_tuple_hash (F.args_tuple_hash_1 _) (beq_builtin_none _) (.inr (by omega)) ?_
   show wpAny _ _ (Builtin.Tuple.tupleItemsOf (.ref a) >>= _) _ _ s
   refine Lo (wpAny_tupleItemsOf hg hd ?_)
   refine Lo ?_
   rw [<-Array.forIn_toList]
   refine ua xs vs.toList _ A.in1 s #[] _ hk hw (by have:(PyData.tuple xs).depth=PyData.depthAll xs+1:=rfl;rw [Around.in1_units];omega) fun b hb=>?_
   show wpAny _ _ (retInt (Builtin.Tuple.tupleHashOf b.toList)) _ _ _
   rw [hb]
   exact Lo (wpAny_mkInt (Lq ⟨_,_,rfl,h⟩))
 | .bool _,_,_,_,_,_,hk,_,_,_ | .list _,_,_,_,_,_,hk,_,_,_ | .dict _,_,_,_,_,_,hk,_,_,_=>by cases hk
theorem ua:∀(xs:List PyData) (vs:List Value) (as:List Addr) (A:Around) (s:Shared) (b:Array Int) (Q:Array Int->Shared->Prop),dJ xs=true->ReadsAll s.heap vs xs as->A.units+PyData.depthAll xs<cLine ->
  (∀b',b'.toList=b.toList++PySem.W.hashesW w.params (PySem.W.ofPys xs)->Q b' { s with toks:=s.toks+nh xs }) ->
  wpAny (model prog w) A (forIn vs b fun x r=>do let h <-pyHash x;pure PUnit.unit;pure (ForInStep.yield (r.push h))) Q E s
 | [],_,_,A,s,b,Q,_,x,_,h=>by cases x;exact Lq (h b (by simp [PySem.W.hashesW,PySem.W.ofPys]))
 | k::xs,_,_,A,s,b,Q,hk,x,hu,h=>by
  cases x with
  | cons x1 x2 =>
   have hk:(fe k&&dJ xs)=true:=hk
   rw [Jp] at hk
   have hu:A.units+max k.depth (PyData.depthAll xs)<cLine:=hu
   rw [J1]
   refine Lo (Lo (rA k _ _ A s _ hk.1 x1 (by omega) ?_))
   refine Lo (Lq (Lq ?_))
   refine ua xs _ _ A _ _ Q hk.2 x2 (by omega) fun b' hb=>?_
   have h2:=h b' (by simp [hb,PySem.W.hashesW,PySem.W.ofPys])
   have e:nh (k::xs)=uZ k+nh xs:=rfl
   rw [e,<-Nat.add_assoc] at h2
   exact h2
end
mutual
theorem uc:∀(d:PyData) (v:Value) (as:List Addr) (A:Around) (s:Shared) (n:Nat) (Q:Bool->Shared->Prop),fe d=true->Reads s.heap v d as->d.depth<=n->Q true s->wpAny (model prog w) A (eqIsQuiet n v) Q E s
 | .none,_,_,A,s,n,Q,_,x,_,h=>by cases x;unfold eqIsQuiet;exact Lq h
 | .int i,_,_,A,s,n,Q,_,x,_,h=>by cases x;unfold eqIsQuiet;exact Lq h
 | .str y,_,_,A,s,n,Q,_,x,_,h=>by cases x;unfold eqIsQuiet;exact Lq h
 | .tuple xs,_,_,A,s,n,Q,hk,x,hn,h=>by
  cases x with
  | @tuple a o vs n' _ _ hg hc hd hw =>
   have hn:PyData.depthAll xs+1<=n:=hn
   obtain⟨n,rfl⟩:∃m,n=m+1:=⟨n-1,by omega⟩
   have hT:s.TypeIs (.ref a) "tuple" := ⟨_,hg,hc⟩
   unfold eqIsQuiet
   refine Lo (wpAny_specialOf hT F.slot_tuple_eq.lookup ?_)
   show wpAny _ _ (isInstance (.ref a) (.type "tuple") >>= _) _ _ s
   refine Lo (LO hT isSubtype_tuple_tuple ?_)
   simp only [Bool.not_true,JT,if_false]
   refine Lo (Lx hg hd ?_)
   refine Lo ?_
   show wpAny _ _ (forIn vs _ _) _ _ s
   rw [<-Array.forIn_toList]
   have hall:=ud xs vs.toList _ A s n hk hw (by omega)
   refine wpAny_forIn_list _ (fun rest r s'=>r.1=none/\s' = s/\∀v∈rest,∀Q:Bool->Shared->Prop,Q true s->wpAny (model prog w) A (eqIsQuiet n v) Q E s) _ ?_ ?_ _ _ ⟨rfl,rfl,hall⟩
   ·rintro v rest r s' ⟨hr,rfl,hq⟩
    refine Lo (hq v IP _ ?_)
    simp only [Bool.not_true,JT,if_false]
    exact Lq ⟨rfl,rfl,fun u hu'=>hq u (IM _ hu')⟩
   ·rintro⟨r1,r2⟩ s' ⟨hr,rfl,_⟩
    simp only at hr
    subst hr
    exact Lq h
 | .bool _,_,_,_,_,_,_,hk,_,_,_ | .list _,_,_,_,_,_,_,hk,_,_,_ | .dict _,_,_,_,_,_,_,hk,_,_,_=>by cases hk
theorem ud:∀(xs:List PyData) (vs:List Value) (as:List Addr) (A:Around) (s:Shared) (n:Nat),dJ xs=true->ReadsAll s.heap vs xs as->PyData.depthAll xs<=n->∀v∈vs,∀Q:Bool->Shared->Prop,Q true s->wpAny (model prog w) A (eqIsQuiet n v) Q E s
 | [],_,_,A,s,n,_,x,_=>by cases x;intro v hv;cases hv
 | k::xs,_,_,A,s,n,hk,x,hn=>by
  cases x with
  | cons x1 x2 =>
   have hk:(fe k&&dJ xs)=true:=hk
   rw [Jp] at hk
   have hn:max k.depth (PyData.depthAll xs)<=n:=hn
   intro v hv Q h
   rcases IE.mp hv with rfl | hv
   ·exact uc k _ _ A s n Q hk.1 x1 (by omega) h
   ·exact ud xs _ _ A s n hk.2 x2 (by omega) v hv Q h
end
end
structure jM (d:PyData):Prop where
 key:fe d=true
 lay:d.canLay0=true
 dep:d.depth<=7
 tup:∃xs,d=.tuple xs
def jN (prog:Program)(w:World):HeapKind prog w PyData where
 is:=fun h d a=>jM d/\∃as,Reads h (.ref a) d as
 hash:=Dh w
 draws:=uZ
 room:=fun A=>A.units+64<cLine
 inj:=fun ⟨h1,_,r1⟩ ⟨h2,_,r2⟩=>t9 r1 r2 h1.key h2.key
 keeps:=fun {h h' k a d o es ep} ⟨h1,as,r1⟩ hd he hs=>⟨h1,as,rn (fun b u n vs e1 e2=>by
  have hne:b≠d:=by
   rintro rfl
   rw [hd] at e1
   cases e1
   rw [he] at e2
   cases e2
  exact (hs.2 b hne).trans e1) r1 h1.key⟩
 pyHash:=fun hu ⟨h1,_,r1⟩ h=>rA _ _ _ _ _ _ h1.key r1 (by have:=h1.dep;omega) h
 eqBool:=fun {A E s x y a b Q} hu ⟨h1,_,r1⟩ ⟨h2,_,r2⟩ h=>by
  refine PySem.SeqAt.eqAt_reads x y A s (.ref a) (.ref b) _ _ r1 r2 h1.lay h2.lay (by have:=h1.dep;have:=h2.dep;omega) prog w E Q ?_
  have e:PyData.eqv x y=decide (x=y):=by
   have:=xN h1.key h2.key
   by_cases hxy:x=y
   ·rw [decide_eq_true hxy];exact this.mpr hxy
   ·rw [decide_eq_false hxy];exact Lk.mpr fun z=>hxy (this.mp z)
  rw [e]
  exact h
 quiet:=fun ⟨h1,_,r1⟩ h=>uc _ _ _ _ _ _ _ h1.key r1 (by have:=h1.dep;omega) h
abbrev KX (kvs:List (PyData×Addr×V))(xs:List (PyData×Addr×Value)):Prop:=Paired (fun (p:PyData×Addr×V) (q:PyData×Addr×Value)=>p.1=q.1/\p.2.1=q.2.1/\RelV p.2.2 q.2.2) kvs xs
def nq (P:Program)(w:World)(a:Addr)(kvs:List (PyData×Addr×V))(h:Heap):Prop:=(a == sysModules)=false/\kvs.length<=sizeLine /\
 ∃(xs:List (PyData×Addr×Value)) (o:Obj) (es:Array DictEntry) (ep:Nat),h.get? a=some o/\o.ExactDict/\o.data=.dict es ep/\es.toList=xs.map (entryOfKey (jN P w))/\(xs.map (·.1)).Nodup/\KX kvs xs
def ff (P:Program)(w:World)(a:Addr)(kvs:List (PyData×Addr×V)):HO:=.ext (nq P w a kvs)
theorem pX {P:Program}{w:World}{H:Hp}{h:Heap}{a:Addr}{kvs:List (PyData×Addr×V)}(S:nq P w a kvs h):bN P w H h a (ff P w a kvs) :=
 ⟨S,let ⟨_,_,_,o,_,_,e,_⟩:=S;⟨o,e⟩,fun h1 h2 ⟨s1,s2,xs,o,es,ep,e,r⟩ k=>⟨s1,s2,xs,o,es,ep,k o e,r⟩⟩
def Di (H:Hp)(kvs:List (PyData×Addr×V)):Prop:=∀p∈kvs,jM p.1/\aJ H (.ref p.2.1) p.1
noncomputable def eZ (kvs:List (PyData×Addr×V)) (d:PyData):Option V:=(kvs.find? fun p=>decide (p.1=d)).map (·.2.2)
noncomputable def putD (kvs:List (PyData×Addr×V)) (d:PyData) (k:Addr) (v:V):List (PyData×Addr×V):=if (eZ kvs d).isSome then kvs.map (fun p=>if p.1=d then (p.1,p.2.1,v) else p) else kvs++[(d,k,v)]
theorem KX.val {d:PyData}:∀{kvs:List (PyData×Addr×V)} {xs:List (PyData×Addr×Value)},KX kvs xs->(eZ kvs d=none/\atKey xs d=none)\/∃v a u,eZ kvs d=some v/\atKey xs d=some (a,u)/\RelV v u
 | _,_,.nil=>.inl ⟨rfl,rfl⟩
 | _,_,.cons (a:=p) (b:=q) (l₁:=kvs) (l₂:=xs) ⟨e1,e2,e3⟩ t=>by
  by_cases h:p.1=d
  ·refine .inr ⟨p.2.2,q.2.1,q.2.2,?_,?_,e3⟩
   ·unfold eZ;rw [Ll (by exact decide_eq_true h)];rfl
   ·unfold atKey;rw [Ll (by exact decide_eq_true (e1 ▸ h))];rfl
  ·have h':¬q.1=d:=fun z=>h (e1.trans z)
   have e4:eZ (p::kvs) d=eZ kvs d:=by unfold eZ;rw [Lm (by rw [decide_eq_false h];decide)]
   have e5:atKey (q::xs) d=atKey xs d:=by unfold atKey;rw [Lm (by rw [decide_eq_false h'];decide)]
   rw [e4,e5]
   exact KX.val t
theorem KX.put {d:PyData}{k:Addr}{v:V}{u:Value}(r:RelV v u){kvs:List (PyData×Addr×V)}{xs:List (PyData×Addr×Value)}(h:KX kvs xs):KX (putD kvs d k v) (storedH xs d k u):=by
 have hv:=h.val (d:=d)
 unfold putD storedH
 rcases hv with ⟨h1,h2⟩ | ⟨v',a',u',h1,h2,_⟩
 ·rw [h1,h2]
  have app:∀{l:List (PyData×Addr×V)} {m:List (PyData×Addr×Value)},KX l m->KX (l++[(d,k,v)]) (m++[(d,k,u)]):=by
   intro l m q
   induction q with
   | nil=>exact .cons ⟨rfl,rfl,r⟩ .nil
   | cons hq _ ih=>exact .cons hq ih
  exact app h
 ·rw [h1,h2]
  show KX (kvs.map fun p=>if p.1=d then (p.1,p.2.1,v) else p) (xs.map (putAt d u))
  have go:∀{l:List (PyData×Addr×V)} {m:List (PyData×Addr×Value)},KX l m->KX (l.map fun p=>if p.1=d then (p.1,p.2.1,v) else p) (m.map (putAt d u)):=by
   intro l m q
   induction q with
   | nil=>exact .nil
   | @cons p q ps qs hq _ ih =>
    refine .cons ?_ ih
    unfold putAt
    dsimp only
    by_cases e:p.1=d
    ·rw [if_pos e,if_pos (hq.1 ▸ e)]
     exact⟨hq.1,hq.2.1,r⟩
    ·rw [if_neg e,if_neg (fun z=>e (hq.1.trans z))]
     exact hq
  exact go h
theorem Cj (kvs:List (PyData×Addr×V))(d:PyData)(k:Addr)(v:V):(putD kvs d k v).length<=kvs.length+1:=by
 unfold putD
 split
 ·rw [ID];omega
 ·rw [IJ];exact IF _
theorem KX.keys:∀{kvs:List (PyData×Addr×V)} {xs:List (PyData×Addr×Value)},KX kvs xs->∀q∈xs,∃p∈kvs,p.1=q.1/\p.2.1=q.2.1
 | _,_,.nil,q,hq=>nomatch hq
 | _,_,.cons (a:=p) (l₁:=kvs) ⟨e1,e2,_⟩ t,q,hq=>by
  rcases IE.mp hq with rfl | hq
  ·exact⟨p,IP ..,e1,e2⟩
  ·obtain⟨p',hp',r⟩:=KX.keys t q hq
   exact⟨p',IM _ hp',r⟩
section
variable {X:Cx}{pins:List (Addr×Obj)}{IA : St}{H:Hp}{s:Shared}{a k:Addr}{kvs:List (PyData×Addr×V)}{d:PyData}
theorem key_is (I:Inv X pins IA H s)(hk:jM d)(r:aJ H (.ref k) d):(jN X.prog X.w).is s.heap d k:=⟨hk,r.reads I.aN rfl⟩
theorem rC (I:Inv X pins IA H s)(e:H a=some (ff X.prog X.w a kvs))(hk:Di H kvs):(a == sysModules)=false/\kvs.length<=sizeLine/\∃xs,KX kvs xs/\s.heap.DictOfH (jN X.prog X.w) a xs:=by
 obtain⟨h1,h2,xs,o,es,ep,g1,g2,g3,g4,g5,g6⟩:=(show nq X.prog X.w a kvs s.heap from (I.aN a _ e).1)
 refine⟨h1,h2,xs,g6,o,es,ep,g1,g2,g3,g4,fun x hx=>?_,g5⟩
 obtain⟨p,hp,e1,e2⟩:=g6.keys x hx
 have:=hk p hp
 rw [<-e1,<-e2]
 exact key_is I this.1 this.2
theorem KX.len:∀{kvs:List (PyData×Addr×V)} {xs:List (PyData×Addr×Value)},KX kvs xs->kvs.length=xs.length
 | _,_,.nil=>rfl
 | _,_,.cons _ t=>congrArg (· + 1) (KX.len t)
theorem u0 {A:Around}(hu:A.units+66<cLine){P:Program}{w:World}:(jN P w).room A.in1:=by show A.in1.units+64<cLine;rw [Around.in1_units];omega
structure y4 (X:Cx) (H:Hp) (a k:Addr) (kvs:List (PyData×Addr×V)) (d:PyData):Prop where
 at_:H a=some (ff X.prog X.w a kvs)
 keys:Di H kvs
 key:jM d
 rd:aJ H (.ref k) d
theorem Eb (hu:X.A.units+66<cLine):dZ X (compareOp .In) (fun x y H Q=>∃k a d kvs,x=.ref k/\y=.ref a/\y4 X H a k kvs d/\Q (.bl (eZ kvs d).isSome) H):=by
 intro pins s IA H x y v u Q I rx ry h
 obtain⟨k,a,d,kvs,rfl,rfl,D,q⟩:=h
 cases rx
 cases ry
 obtain⟨h1,h2,xs,kx,dd⟩:=rC I D.at_ D.keys
 refine wpAny_in_heap (u0 hu) (key_is I D.key D.rd) h1 dd ?_
 have e:(atKey xs d).isSome=(eZ kvs d).isSome:=by
  rcases kx.val (d:=d) with ⟨e1,e2⟩ | ⟨_,_,_,e1,e2,_⟩ <;> rw [e1,e2] <;> rfl
 rw [e]
 exact⟨.bl _,H,I.tok _,rfl,q⟩
theorem y6 (hu:X.A.units+66<cLine):dZ X (compareOp .NotIn) (fun x y H Q=>∃k a d kvs,x=.ref k/\y=.ref a/\y4 X H a k kvs d/\Q (.bl (!(eZ kvs d).isSome)) H):=by
 intro pins s IA H x y v u Q I rx ry h
 obtain⟨k,a,d,kvs,rfl,rfl,D,q⟩:=h
 cases rx
 cases ry
 obtain⟨h1,h2,xs,kx,dd⟩:=rC I D.at_ D.keys
 refine wpAny_notIn_heap (u0 hu) (key_is I D.key D.rd) h1 dd ?_
 have e:(atKey xs d).isSome=(eZ kvs d).isSome:=by
  rcases kx.val (d:=d) with ⟨e1,e2⟩ | ⟨_,_,_,e1,e2,_⟩ <;> rw [e1,e2] <;> rfl
 rw [e]
 exact⟨.bl _,H,I.tok _,rfl,q⟩
theorem Ec {o i:Expr}{pos:Pos}{td ty:TE}(hu:X.A.units+66<cLine)(ho:PE X o td)(hi:PE X i ty)(hs:yL i) :
  PE X (.Subscript o i pos) (fun IA H Q=>td IA H fun x H1=>ty IA H1 fun y H2=>∃k a d kvs v,x=.ref a/\y=.ref k/\y4 X H2 a k kvs d/\eZ kvs d=some v/\Q v H2):=by
 intro pins s IA H Q I h
 refine sC PySem.F.slot_dict_getitem.lookup hs (aX (ho pins s IA H _ I h) fun u s1 ⟨x,H1,I1,rx,q1⟩=>aX (hi pins s1 IA H1 _ I1 q1) fun iv s2 ⟨y,H2,I2,ry,k,a,d,kvs,v,ex,ey,D,hv,q2⟩=>?_)
 subst ex ey
 obtain rfl:u=Value.ref a:=rx
 obtain rfl:iv=Value.ref k:=ry
 obtain⟨h1,h2,xs,kx,dd⟩:=rC I2 D.at_ D.keys
 rcases kx.val (d:=d) with ⟨e1,_⟩ | ⟨v',a',u',e1,e2,e3⟩
 ·rw [e1] at hv;cases hv
 ·rw [e1] at hv
  cases hv
  exact⟨dd.typeIs,wpAny_getItem_heap (u0 hu) (key_is I2 D.key D.rd) dd e2 ⟨_,H2,I2.tok _,e3,q2⟩⟩
theorem Ck (hu:X.A.units+66<cLine):Bh X (fun o i v H Q=>∃k a d kvs,o=.ref a/\i=.ref k/\y4 X H a k kvs d/\kvs.length<sizeLine/\Q (upd H a (ff X.prog X.w a (putD kvs d k v)))):=by
 intro pins s IA H o i v ov iv u Q I ro ri rv h
 obtain⟨k,a,d,kvs,rfl,rfl,D,hz,q⟩:=h
 cases ro
 cases ri
 obtain⟨h1,h2,xs,kx,dd⟩:=rC I D.at_ D.keys
 refine wpAny_setItem_heap (u0 hu) (key_is I D.key D.rd) dd (fun h' hm' hs'=>?_) (by rw [<-kx.len];exact h2)
 obtain⟨o',es,ep,g1,g2,g3,g4,g5,g6⟩:=id hm'
 refine⟨_,I.write (t':=_) (x:=a) (e:=a) (by rw [D.at_];exact trivial) (.inl rfl) (fun c u' hc hu=>(hs'.2 c hc).trans hu) ⟨o',g1⟩ (pX ⟨h1,?_,storedH xs d k u,o',es,ep,g1,g2,g3,g4,g6,kx.put rv⟩),q⟩
 have:=Cj kvs d k v
 omega
end
open LS
section
variable {X:Cx}
end
def sI (a0 a1:V):List (Str×V):=[("members",a0),("places",a1)]
section
variable {a0 a1 z:V}
theorem ik:(sI a0 a1).lookup ("members" : Str)=some a0:=pP
theorem i0:(sI a0 a1).lookup ("places" : Str)=some a1:=(eB (by decide +kernel) pP)
theorem rD:cF "members" a0 ([]:List (Str×V))=([("members",a0)]:List (Str×V)):=pQ
theorem AD:cF "places" a1 ([("members",a0)]:List (Str×V))=sI a0 a1:=(eY (by decide +kernel) pQ)
theorem vQ:(sI a0 a1).lookup ("place_of" : Str)=none:=(eB (by decide +kernel) (eB (by decide +kernel) rfl))
end
structure sJ (K:IC) (C:Addr):Prop where
 cl:jG K C
 members:eh K C "members"
 places:eh K C "places"
abbrev vN (ms:List Nat):List V:=ms.map fun k=>V.int (k:Nat)
def lP (m d:Addr)(H H':Hp):Prop:=∀c o,H c=some o->c≠m->c≠d->H' c=some o
theorem lP.refl {m d:Addr}{H:Hp}:lP m d H H:=fun _ _ h _ _=>h
theorem lP.of_same {m d:Addr}{H H':Hp}(h:af H H'):lP m d H H':=fun c o e _ _=>h c o e
section
variable {C r m d:Addr}{H H':Hp}{ms:List Nat}
end
section
variable (C:Addr)
end
def Iy:Piece->Bool
 | ([],.go _)=>true
 | _=>false
theorem gY {l:List Nat}{n:Nat}(nd:l.Nodup)(h:∀x∈l,x<n):l.length<=n:=by
 have:=sub_len nd (m:=Js n) fun x hx=>JV.mpr (h x hx)
 simpa using this
def lQ:End->List V
 | .stop=>[.str "stop"]
 | .go _=>[.str "go"]
 | .cC b x n _ _=>[.str (wT b),.str x,.int n]
def Cm:End->List Nat->End
 | .go _,[a]=>.go a
 | .cC b x n _ _,[a,c]=>.cC b x n a c
 | e,_=>e
theorem Cn {e:End}{ns:List Nat}(h:ns.length=(br e).length):fo (Cm e ns)=lQ e++vN ns:=by
 cases e with
 | stop=>match ns,h with | [],_=>rfl
 | go p=>match ns,h with | [a],_=>rfl
 | cC b x n p q=>match ns,h with | [a,c],_=>rfl
theorem nu {H:Hp}{t:Addr}{e:End}(h:H t=some (.tup (fo e))):aJ H (.ref t) (eX e):=by
 cases e with
 | stop=>exact .tup h (.cons (.str _) .nil)
 | go p=>exact .tup h (.cons (.str _) (.cons (.int _) .nil))
 | cC b x n p q=>exact .tup h (.cons (.str _) (.cons (.str _) (.cons (.int _) (.cons (.int _) (.cons (.int _) .nil)))))
theorem Co {ms:List Nat}{k:Nat}(h:ms.Nodup):(LS.putIn ms k).Nodup:=by
 unfold LS.putIn
 split
 ·exact h
 ·next hk =>
  rw [Kh]
  refine⟨h,by simp,fun x hx y hy z=>?_⟩
  rw [IH.mp hy] at z
  exact hk (z ▸ hx)
def lR (k:Nat):PyData:=.int (k:Nat)
inductive ue  (vs:List V) (H:Hp) (Q:VK) (_:XK):Prop
 | mk (ea:Addr) (e:End) (_:vs=[.ref ea]) (_:H ea=some (.tup (fo e))) (_:∀t H',H' t=some (.tup (lQ e))->af H H'->Q (.ref t) H')
theorem dh:∀ds:List PyData,(∀d∈ds,d.canLay0=true)->(PyData.tuple ds).canLay0=true
 | [],_=>rfl
 | d::ds,h=>by
  have ih:=dh ds fun x hx=>h x (IM _ hx)
  show (d.canLay0&&(PyData.tuple ds).canLay0)=true
  rw [h d (IP ..),ih]
  rfl
theorem jx {m:Nat}:∀ds:List PyData,(∀d∈ds,d.depth<=m)->PyData.depthAll ds<=m
 | [],_=>Jc _
 | d::ds,h=>by
  have ih:=jx ds fun x hx=>h x (IM _ hx)
  have h1:=h d (IP ..)
  show max d.depth (PyData.depthAll ds)<=m
  omega
theorem Cq (d:cH):(cu d).depth<=1:=by cases d <;> exact IF 1
theorem Ed (e:End):(eX e).depth<=1:=by cases e <;> exact IF 1
theorem AE (p:Piece):(bK p).depth<=3:=by
 have h1:=jx (p.1.map cu) fun d hd=>by obtain⟨x,_,rfl⟩:=IS.mp hd;exact Cq x
 have h2:=Ed p.2
 show max (PyData.depthAll (p.1.map cu)+1) (max (eX p.2).depth 0)+1<=3
 omega
theorem fI {x:Str}(h:dP x):PyData.canLay0 (.str x)=true:=by
 show (x.cps.all fun c=>decide (c<0x110000))=true
 rw [<-Array.all_toList,Ki]
 intro c hc
 have:=h.az c hc
 exact decide_eq_true (by omega)
theorem Cr {xs:List Str}(hx:∀x∈xs,dP x){d:cH}(h:cB xs d):(cu d).canLay0=true:=by
 cases d with
 | put x n =>
  refine dh _ fun y hy=>?_
  rcases IE.mp hy with rfl | hy
  ·decide +kernel
  rcases IE.mp hy with rfl | hy
  ·exact fI (hx _ h.1)
  rw [IH.mp hy];rfl
 | copy x z =>
  refine dh _ fun y hy=>?_
  rcases IE.mp hy with rfl | hy
  ·decide +kernel
  rcases IE.mp hy with rfl | hy
  ·exact fI (hx _ h.1)
  rw [IH.mp hy];exact fI (hx _ h.2)
 | add x n =>
  refine dh _ fun y hy=>?_
  rcases IE.mp hy with rfl | hy
  ·decide +kernel
  rcases IE.mp hy with rfl | hy
  ·exact fI (hx _ h.1)
  rw [IH.mp hy];rfl
 | read x =>
  refine dh _ fun y hy=>?_
  rcases IE.mp hy with rfl | hy
  ·decide +kernel
  rw [IH.mp hy];exact fI (hx _ h)
 | tell x =>
  refine dh _ fun y hy=>?_
  rcases IE.mp hy with rfl | hy
  ·decide +kernel
  rw [IH.mp hy];exact fI (hx _ h)
theorem Ee {xs:List Str}(hx:∀x∈xs,dP x){c:Nat}{e:End}(h:ft xs c e):(eX e).canLay0=true:=by
 cases e with
 | stop =>
  refine dh _ fun y hy=>?_
  rw [IH.mp hy];decide +kernel
 | go p =>
  refine dh _ fun y hy=>?_
  rcases IE.mp hy with rfl | hy
  ·decide +kernel
  rw [IH.mp hy];rfl
 | cC b x n p q =>
  refine dh _ fun y hy=>?_
  rcases IE.mp hy with rfl | hy
  ·cases b <;> decide +kernel
  rcases IE.mp hy with rfl | hy
  ·exact fI (hx _ h.1)
  rcases IE.mp hy with rfl | hy
  ·rfl
  rcases IE.mp hy with rfl | hy
  ·rfl
  rw [IH.mp hy];rfl
def i8 (ps:List Piece):Prop:=∀p∈ps,(PyData.tuple (p.1.map cu)).canLay0=true/\(eX p.2).canLay0=true
theorem jO {xs:List Str}(hx:∀x∈xs,dP x){m:Nat}{ps:List Piece}(ok:bY xs m ps):i8 ps:=fun p hp =>
 ⟨dh _ fun d hd=>by obtain⟨x,hx',rfl⟩:=IS.mp hd;exact Cr hx ((ok.fb p hp).2 x hx'),Ee hx (ok.ends p hp)⟩
theorem sL (k:Nat):∀ms:List Nat,iW (.int (k:Nat)) (vN ms)=decide (k∈ms)
 | []=>rfl
 | m::ms=>by
  have ih:=sL k ms
  show ((((m:Nat):Int) == ((k:Nat):Int))||iW (.int (k:Nat)) (vN ms))=_
  rw [ih]
  by_cases e:m=k
  ·subst e;simp
  ·have e':¬(m:Int)=(k:Int):=by omega
   rw [beq_false_of_ne e',Bool.false_or]
   have:k∈m::ms↔k∈ms:=by rw [IE];exact⟨fun h=>h.resolve_left fun z=>e z.symm,.inr⟩
   simp only [this]
theorem xO (ms:List Nat):(vN ms).all h9=true:=by rw [Ki];intro v hv;obtain⟨k,_,rfl⟩:=IS.mp hv;rfl
theorem AF (ms:List Nat):vN ms=(ms.map fun k:Nat=>(k:Int)).map V.int:=by rw [JN];rfl
section
variable {X:Cx}{pins:List (Addr×Obj)}{IA : L2.St}{H:Hp}{s:Shared}{a:Addr}
end
section
variable {X:Cx}
end
def Sound (T:Str->Sx)(w:Str->Int):Prop:=∀x,jm (w x) (T x).1 (T x).2=true
theorem Cs {x:Str}(h:dP x):PyData.canLay0 (.str x)=true:=by
 show (x.cps.all fun c=>decide (c<0x110000))=true
 rw [<-Array.all_toList,Ki]
 intro c hc
 have:=h.az c hc
 exact decide_eq_true (by omega)
def lS (lo lo2:Option Int):Bool:=match lo2,lo with
 | none,_=>true
 | some _,none=>false
 | some a,some b=>decide (a<=b)
def jq (hi hi2:Option Int):Bool:=match hi2,hi with
 | none,_=>true
 | some _,none=>false
 | some a,some b=>decide (b<=a)
def jP (s t:Sx):Bool:=lS s.1 t.1&&jq s.2 t.2
def lU (T:Str->Sx)(m:Nat):Prop:=∀ss:List Str,(∀x∈ss,T x≠dX)->ss.Nodup->ss.length<=m
inductive xP (aA:Addr) (vs:List V) (H:Hp) (Q:VK) (_:XK):Prop
 | mk (fv:V) (x:Str) (T:Str->Sx) (_:vs=[fv,.str x]) (_:FV H fv T) (_:∀v H',SV aA H' v (T x)->af H H'->Q v H')
inductive o7 (aA:Addr) (vs:List V) (H:Hp) (Q:VK) (_:XK):Prop
 | mk (fv sv:V) (x:Str) (T:Str->Sx) (s:Sx) (_:vs=[fv,.str x,sv]) (_:FV H fv T) (_:SV aA H sv s) (_:lU T 62) (_:∀v H',FV H' v (dY T x s)->af H H'->Q v H')
inductive uf (K:IC) (vs:List V) (H:Hp) (Q:VK) (_:XK):Prop
 | mk (p q:Addr) (s t:Sx) (_:vs=[.ref p,.ref q]) (_:aw K H p [vO s.1,vO s.2]) (_:aw K H q [vO t.1,vO t.2]) (_:Q (.bl (jP s t)) H)
inductive vR  (vs:List V) (H:Hp) (Q:VK) (_:XK):Prop
 | mk (fv gv:V) (T U:Str->Sx) (_:vs=[fv,gv]) (_:FV H fv T) (_:FV H gv U) (_:lU T 63) (_:∀b H',(b=true↔∀x,jP (U x) (T x)=true)->af H H'->Q (.bl b) H')
theorem xQ (s:Sx):jP s dX=true:=by
 obtain⟨a,b⟩:=s
 cases a <;> cases b <;> rfl
theorem AG {T U:Str->Sx}{ss:List Str}(hm:∀x,x∈ss↔T x≠dX):(ss.map fun x=>jP (U x) (T x)).all id=true↔∀x,jP (U x) (T x)=true:=by
 rw [Ki]
 constructor
 ·intro h x
  by_cases e:T x=dX
  ·rw [e];exact xQ _
  ·exact h _ (IS.mpr ⟨x,(hm x).mpr e,rfl⟩)
 ·intro h b hb
  obtain⟨x,_,rfl⟩:=IS.mp hb
  exact h x
section
variable {X:Cx}
end
theorem Ct (s:Sx):jP s s=true:=by
 obtain⟨a,b⟩:=s
 cases a <;> cases b <;> simp [jP,lS,jq]
inductive xR (K:IC) (vs:List V) (H:Hp) (Q:VK) (_:XK):Prop
 | mk (n:Int) (q:Addr) (lo hi:Option Int) (_:vs=[.int n,.ref q]) (_:aw K H q [vO lo,vO hi]) (_:Q (.bl (jm n lo hi)) H)
inductive nv (K:IC) (F:Option Int->Option Int->Int->Rs) (vs:List V) (H:Hp) (Q:VK) (_:XK):Prop
 | mk (p:Addr) (n:Int) (lo hi:Option Int) (_:vs=[.ref p,.int n]) (_:aw K H p [vO lo,vO hi]) (_:∀v H',RV H' v (F lo hi n)->af H H'->Q v H')
inductive xS (K:IC) (vs:List V) (H:Hp) (Q:VK) (_:XK):Prop
 | mk (p:Addr) (w:Str) (n:Int) (side:Bool) (lo hi:Option Int) (_:vs=[.ref p,.str w,.int n,.bl side]) (_:aw K H p [vO lo,vO hi]) (_:∀v H',RV H' v (ij w lo hi n side)->af H H'->Q v H')
def dQ (T:Str->Sx)(b:Bool)(x:Str)(n:Int)(side:Bool):Rs:=ij (wT b) (T x).1 (T x).2 n side
def i9 (T:Str->Sx):End->List (Option (Str->Sx))
 | .stop=>[]
 | .go _=>[some T]
 | .cC b x n _ _=>[(dQ T b x n true).map (dY T x),(dQ T b x n false).map (dY T x)]
def BV (H:Hp)(u:V):Option (Str->Sx)->Prop
 | none=>u=.bg
 | some T=>FV H u T
theorem BV.av {H H':Hp}{u:V}{o:Option (Str->Sx)}(h:BV H u o)(k:∀p xs,H p=some (.tup xs)->H' p=some (.tup xs)):BV H' u o:=by
 cases o with
 | none=>exact h
 | some T=>exact FV.av h k
def mG (H:Hp)(us:List V)(os:List (Option (Str->Sx))):Prop:=Paired (BV H) us os
def cE (T:Str->Sx)(e:End):List (Nat×(Str->Sx)):=((br e).zip (i9 T e)).filterMap fun p=>p.2.map fun U=>(p.1,U)
inductive vS (aA:Addr) (vs:List V) (H:Hp) (Q:VK) (_:XK):Prop
 | mk (fv:V) (ea:Addr) (T:Str->Sx) (e:End) (_:vs=[fv,.ref ea]) (_:FV H fv T) (_:H ea=some (.tup (fo e))) (_:lU T 62) (_:∀(t:Addr) (us:List V) (H':Hp),H' t=some (.tup us)->mG H' us (i9 T e)->af H H'->Q (.ref t) H')
def PV (H:Hp)(v:V)(p:Nat×(Str->Sx)):Prop:=∃q u,v=.ref q/\H q=some (.tup [.int p.1,u])/\FV H u p.2
theorem PV.av {H H':Hp}{v:V}{p:Nat×(Str->Sx)}(h:PV H v p)(k:∀p xs,H p=some (.tup xs)->H' p=some (.tup xs)):PV H' v p:=by
 obtain⟨q,u,e,h1,h2⟩:=h
 exact⟨q,u,e,k _ _ h1,h2.av k⟩
def ny (H:Hp)(vs:List V)(ps:List (Nat×(Str->Sx))):Prop:=Paired (PV H) vs ps
theorem ny.av {H H':Hp}(k:∀p xs,H p=some (.tup xs)->H' p=some (.tup xs)):∀{vs:List V} {ps:List (Nat×(Str->Sx))},ny H vs ps->ny H' vs ps
 | _,_,.nil=>.nil
 | _,_,.cons h t=>.cons (h.av k) (ny.av k t)
theorem mG.av {H H':Hp}(k:∀p xs,H p=some (.tup xs)->H' p=some (.tup xs)):∀{vs:List V} {ps:List (Option (Str->Sx))},mG H vs ps->mG H' vs ps
 | _,_,.nil=>.nil
 | _,_,.cons h t=>.cons (h.av k) (mG.av k t)
theorem ny.same {H H':Hp}{vs:List V}{ps:List (Nat×(Str->Sx))}(h:ny H vs ps)(s:af H H'):ny H' vs ps:=h.av fun p xs e=>s _ _ e
theorem mG.same {H H':Hp}{vs:List V}{ps:List (Option (Str->Sx))}(h:mG H vs ps)(s:af H H'):mG H' vs ps:=h.av fun p xs e=>s _ _ e
inductive sN (aA:Addr) (vs:List V) (H:Hp) (Q:VK) (_:XK):Prop
 | mk (fv:V) (ea:Addr) (T:Str->Sx) (e:End) (_:vs=[fv,.ref ea]) (_:FV H fv T) (_:H ea=some (.tup (fo e))) (_:lU T 62) (_:∀(t:Addr) (vs:List V) (H':Hp),H' t=some (.tup vs)->ny H' vs (cE T e)->af H H'->Q (.ref t) H')
def pY (T:Str->Sx):Prop:=∀x,T x≠dX->PyData.canLay0 (.str x)=true
theorem AH {T:Str->Sx}(h:pY T):∀ss:List Str,(∀x∈ss,T x≠dX)->(fH T ss).canLay0=true
 | [],_=>rfl
 | x::ss,hs=>by
  have ih:=AH h ss fun y hy=>hs y (IM _ hy)
  show ((PyData.canLay0 (.str x)&&((dS (T x)).canLay0&&true))&&(fH T ss).canLay0)=true
  rw [h x (hs x (IP ..)),Df,ih]
  rfl
theorem FK (T:Str->Sx)(ss:List Str):(fH T ss).depth<=3:=by
 have go:∀ss:List Str,PyData.depthAll (ss.map (dF T))<=2:=by
  intro ss
  induction ss with
  | nil=>exact Jc _
  | cons x ss ih =>
   show max (max 0 (max ((dS (T x)).depth) 0)+1) (PyData.depthAll (ss.map (dF T)))<=2
   have hd:(dS (T x)).depth<=1:=by
    obtain⟨a,b⟩:=T x
    cases a <;> cases b <;> (show (1:Nat)<=1;decide)
   omega
 show PyData.depthAll (ss.map (dF T))+1<=3
 have:=go ss
 omega
theorem Ef {T:Str->Sx}{e:End}(h:(br e).length<2):i9 T e=(br e).map fun _=>some T:=by
 cases e with
 | stop=>rfl
 | go p=>rfl
 | cC b x n p q=>exact absurd h (by show ¬2<2;omega)
theorem xT {H:Hp}{fv:V}{T:Str->Sx}(h:FV H fv T):∀l:List Nat,mG H (JR l.length fv) (l.map fun _=>some T)
 | []=>.nil
 | _::l=>.cons h (xT h l)
def o8 (H:Hp)(vs:List V)(rs:List Rs):Prop:=Paired (RV H) vs rs
theorem o8.same {H H':Hp}(s:af H H'):∀{vs:List V} {rs:List Rs},o8 H vs rs->o8 H' vs rs
 | _,_,.nil=>.nil
 | _,_,.cons h t=>.cons (h.same s) (o8.same s t)
theorem o8.put {H:Hp}{l:Addr}{xs:List V}{o:HO}(hl:H l=some (.lst xs)):∀{vs:List V} {rs:List Rs},o8 H vs rs->o8 (upd H l o) vs rs
 | _,_,.nil=>.nil
 | _,_,.cons h t=>.cons (h.put hl) (o8.put hl t)
theorem RV.sv {aA:Addr}{H:Hp}{v:V}{s:Sx}(h:RV H v (some s)):SV aA H v s:=by
 obtain⟨a,b⟩:=s
 obtain⟨p,e,h⟩:=h
 exact .inl ⟨p,e,h⟩
def nz (ss:List Str):PyData:=.tuple (ss.map fun x=>.tuple [.str x,.tuple [.int 0,.int 0]])
inductive xU  (vs:List V) (H:Hp) (Q:VK) (_:XK):Prop
 | mk (plv:V) (ps:List Piece) (xs:List Str) (m:Nat) (_:vs=[plv]) (_:aJ H plv (bM ps)) (_:bY xs m ps) (_:xs.length<64) (_:(ba ps).length<=4000) (_:∀(v:V) (ss:List Str) (H':Hp),aJ H' v (nz ss)->ss.Perm (cD (ba ps))->sortedS ss=true->af H H'->Q v H')
theorem gZ:∀ss:List Str,bB (ss.map fun x=>PyData.tuple [.str x,.tuple [.int 0,.int 0]])=true
 | []=>rfl
 | x::ss=>by
  show (true&&bB (ss.map fun x=>PyData.tuple [.str x,.tuple [.int 0,.int 0]]))=true
  rw [gZ ss];rfl
theorem AI {T:Str->Sx}{e:End}{i k:Nat}{o:Option (Str->Sx)}(h1:(br e)[i]?=some k)(h2:(i9 T e)[i]?=some o) :
  (((br e).zip (i9 T e)).take (i+1)).filterMap (fun p=>p.2.map fun U=>(p.1,U))=(((br e).zip (i9 T e)).take i).filterMap (fun p=>p.2.map fun U=>(p.1,U))++(o.map fun U=>(k,U)).toList:=by
 have hz:((br e).zip (i9 T e))[i]?=some (k,o):=by rw [List.getElem?_zip_eq_some];exact⟨h1,h2⟩
 rw [Ju,hz,List.filterMap_append]
 cases o <;> rfl
theorem fJ {α β : Type}{F:α->β->Prop}{l:List α}{m:List β}(h:Paired F l m){i:Nat}{x:α}(e:l[i]?=some x):∃y,m[i]?=some y/\F x y:=LS.lN h e
theorem eJ {α β : Type}{F:α->β->Prop}:∀{l l':List α} {m m':List β},Paired F l m->Paired F l' m'->Paired F (l++l') (m++m')
 | _,_,_,_,.nil,h=>h
 | _,_,_,_,.cons r t,h=>.cons r (eJ t h)
section
variable {prog:Program}{w:World}{A:Around}{E:Value->Shared->Prop}{s:Shared}
end
section
variable {X:Cx}
end
inductive AJ  (vs:List V) (H:Hp) (Q:VK) (_:XK):Prop
 | mk (plv:V) (ps:List Piece) (xs:List Str) (m:Nat) (_:vs=[plv]) (_:aJ H plv (bM ps)) (_:bY xs m ps) (_:xs.length<64) (_:∀(l:Addr) (ss:List Str) (H':Hp),H' l=some (.lst (ss.map V.str))->ss.Perm (cD (ba ps))->sortedS ss=true->ss.length<64->af H H'->Q (.ref l) H')
def KeysAre (kvs:List (Key×V))(ns:List Str):Prop:=kvs.map (·.1)=(cD ns).map Sum.inr
theorem y7 (ns:List Str)(x:Str):cD (ns++[x])=LS.putIn (cD ns) x:=by unfold cD;rw [K3];rfl
theorem KeysAre.put {kvs:List (Key×V)}{ns:List Str}(h:KeysAre kvs ns)(x:Str)(v:V):KeysAre (putK kvs (Sum.inr x) v) (ns++[x]):=by
 unfold KeysAre at h ⊢
 rw [y7]
 unfold LS.putIn
 rcases tW (kvs:=kvs) (k:=(Sum.inr x:Key)) (v:=v) with ⟨e1,hm⟩ | ⟨e1,hn⟩
 ·rw [h] at hm
  obtain⟨y,hy,e⟩:=IS.mp hm
  cases e
  rw [if_pos hy,e1,h]
 ·rw [if_neg (fun z=>hn (by rw [h];exact IS.mpr ⟨x,z,rfl⟩)),e1,h,IT];rfl
theorem KeysAre.len {kvs:List (Key×V)}{ns:List Str}(h:KeysAre kvs ns):kvs.length=(cD ns).length:=by have:=congrArg JX h;simpa using this
theorem Cu {ns xs:List Str}(h:∀x∈ns,x∈xs):(cD ns).length<=xs.length:=sub_len (pU _) fun x hx=>h x (j2.mp hx)
theorem Eg {xs:List Str}{m:Nat}{ps:List Piece}(ok:bY xs m ps):(ba ps).length<=ps.length*(2*m+1):=by
 unfold ba
 have h:∀p∈ps,(pNames p).length<=2*m+1:=fun p hp=>by
  have h1:=(ok.fb p hp).1
  unfold pNames
  rw [IJ]
  have h2:(p.1.flatMap cg).length<=2*p.1.length:=by
   induction p.1 with
   | nil=>simp
   | cons d ds ih =>
    rw [List.flatMap_cons,IJ,Jr]
    have:(cg d).length<=2:=by cases d <;> simp [cg]
    omega
  have h3:(gh p.2).length<=1:=by cases p.2 <;> simp [gh]
  omega
 clear ok
 induction ps with
 | nil=>simp
 | cons p ps ih =>
  rw [List.flatMap_cons,IJ,Jr]
  have h1:=h p (IP ..)
  have h2:=ih fun q hq=>h q (IM _ hq)
  rw [Nat.add_mul]
  omega
theorem wU {K:IC}{cd:Value}{q:Str}(h:JZ K cd q=true):K5 K cd=true:=by
 unfold JZ at h
 unfold K5
 split at h
 ·split at h
  ·rename_i ho
   dsimp only
   rw [ho]
  ·cases h
 ·cases h
theorem Eh {prog:Program}{w:World}{A:Around}{E:Value->Shared->Prop}{s:Shared}{Q:Value->Shared->Prop}(q:Q (.ref s.heap.objs.size) { s with heap:=s.heap.push (df w) }):wpAny (model prog w) A (newSet (.type "set")) Q E s:=by
 unfold newSet setsByText
 refine Lo (Lo (LW (Lq ?_)))
 dsimp only
 simp only [newObj]
 first
  | exact LQ (Lq q)
  | exact Lo (LQ (Lq q))
  | exact Lo (LQ (Lq (Lq q)))
  | exact Lo (LQ q)
section
variable {X:Cx}
theorem Ei {e:Expr}{k:Nat}{pos:Pos}{te:TE}(hc:K5 X.K X.env.code=true)(he:PE X e te)(hk:displayRoad k [e]=.oneByOne:=by rfl)(hs:starEach [e] X.env=[(false,eval e X.env)]:=by rfl) :
  PE X (.Set [e] k pos) (fun IA H Q=>∀l,H l=none->te IA (upd H l (cI X.prog X.w l [])) fun x H1=>H1 l=some (cI X.prog X.w l [])/\∃kk,x=kV kk/\Q (.ref l) (upd H1 l (cI X.prog X.w l [kk]))):=by
 intro pins s IA H Q I h
 rw [arm_eval_Set]
 refine Lo (LG ?_)
 refine Lo (PySem.W.kds_main I.fY hc fun b=>?_)
 rw [hs,hk]
 unfold setDisplay
 dsimp only
 rw [if_neg (by decide)]
 refine Lo (Eh ?_)
 dsimp only
 simp only [Jj,List.map_nil,Jr,KR,Nat.reduceAdd,gt_iff_lt,Nat.reduceLT,if_false,List.findIdx?_cons,List.findIdx?_nil,Option.map_none,Option.getD_none,List.take_succ_cons,List.take_zero,List.drop_succ_cons,List.drop_nil,evalAll,JT]
 have hS:eF (aT X.prog X.w) (s.heap.push (df X.w)) s.heap.objs.size []:=m6 rfl (IK _ rfl)
 have I1:Inv X pins IA (upd H s.heap.objs.size (cI X.prog X.w s.heap.objs.size [])) { s with heap:=s.heap.push (df X.w) }:=I.laid (t':=s.toks) (fun b o e=>II _ e) (IF _) (kU hS)
 refine Lo (Ls ?_)
 refine Lo (Lo (Lo (aX (he pins _ IA _ _ I1 (h _ I.fresh)) fun v s1 ⟨x,H1,I2,rx,hl1,kk,ex,q⟩=>Lo (LG (Lq ?_)))))
 subst ex
 refine Lo (Ls (Lq (Lq ?_)))
 refine Lo (Ls ?_)
 simp only [J1,KP]
 refine Lo (Lo (Lo (sH (oF rx) (I2.sG hl1) (by decide) fun h' b S' c=>Lq ?_)))
 refine Lq ?_
 rw [if_neg (by decide)]
 refine Lq ?_
 refine Lo (Lq (Lq (Lq ?_)))
 have e1:LS.putIn ([]:List Key) kk=[kk]:=by unfold LS.putIn;rw [if_neg (by simp)];rfl
 rw [e1] at S'
 refine⟨.ref s.heap.objs.size,_,I2.write (t':=s1.toks+1) (x:=s.heap.objs.size) (e:=s.heap.objs.size) (by rw [hl1];exact trivial) (.inl rfl) (fun c u' hc hu=>b.extBut c u' hc hu) ?_ (kU S'),rfl,q⟩
 obtain⟨o,_,_,_,So⟩:=S'
 exact⟨o,So.at_⟩
end
section
variable {prog:Program}{w:World}{A:Around}{E:Value->Shared->Prop}{s:Shared}
theorem AK {d:Addr}(hd:(d == sysModules)=false) :
  MeetsIn prog w (Builtin.«dict.__len__» ⟨[.ref d],[]⟩) (fun _ R s=>∃(o:Obj) (es:Array DictEntry) (ep:Nat),s.heap.get? d=some o/\o.data=.dict es ep/\R (.ok (.ret (.int es.size s.toks))) { s with toks:=s.toks+1 }) :=
 .of_wp fun A R s ⟨o,es,ep,ho,hdat,h⟩=>by
  show wpAny _ _ (dictSize d >>= _) _ _ s
  unfold dictSize
  refine Lo (Lo (wpAny_dictEntries ho hdat (Lq ?_)))
  show wpAny _ _ (Builtin.Dict.pendingCount d >>= _) _ _ s
  refine Lo (wpAny_pendingCount_other hd ?_)
  refine wpAny_ret_mkInt ?_
  rw [Nat.add_zero];exact h
theorem Ej {d:Addr}{o:Obj}{es:Array DictEntry}{ep:Nat}{Q:Value->Shared->Prop}(hd:(d == sysModules)=false)(ho:s.heap.get? d=some o)(hc:o.ExactDict)(hdat:o.data=.dict es ep)(hfit:(es.size:Int)<2 ^ 63)
  (h:Q (.int es.size (s.toks+1)) { s with toks:=s.toks+1+1 }):wpAny (model prog w) A (call (.builtin "len") [.ref d]) Q E s:=by
 refine Calls.call_function_entry kind_len plain_len entry_len (args_len1 _) ?_
 have hT:s.TypeIs (.ref d) "dict" := ⟨o,ho,hc.1⟩
 unfold Builtin.«len»
 refine Lo (m:=oneArg "len" _) (Lq ?_)
 refine Lo (m:=callSpecial? (.ref d) (Str.ofString "__len__")) (wpAny_callSpecial?_slot (name:=Str.ofString "__len__") hT F.slot_dict_len
  (call_meetsIn F.slot_dict_len hT F.entry_dict_len (F.args_dict_len_1 _) (AK hd) ⟨o,es,ep,ho,hdat,?_⟩))
 show wpAny _ _ _ _ _ { s with toks:=s.toks+1 }
 refine Lo (Ls (Lq ?_))
 refine Lo (wpAny_letGo ?_)
 show wpAny _ _ (if ((es.size:Nat):Int)<0 then _ else _) _ _ _
 rw [if_neg (by omega)]
 show wpAny _ _ (if ((es.size:Nat):Int) >= 2 ^ 63 then _ else _) _ _ _
 rw [if_neg (by omega)]
 exact Lo (wpAny_mkInt (Lq ⟨_,rfl,h⟩))
end
section
variable {X:Cx}
theorem y8:dU X (.builtin "len") (fun xs H Q=>∃a kvs,xs=[V.ref a]/\H a=some (ff X.prog X.w a kvs)/\Q (.int kvs.length) H):=by
 intro pins s IA H xs us Q I r h
 obtain⟨a,kvs,rfl,ha,q⟩:=h
 obtain⟨u,rfl,ru⟩:=vals1 r
 cases ru
 obtain⟨h1,h2,xs,o,es,ep,g1,g2,g3,g4,g5,g6⟩:=(show nq X.prog X.w a kvs s.heap from (I.aN a _ ha).1)
 have hz:es.size=kvs.length:=by rw [g6.len,<-JA,g4,ID]
 have hn:=jF
 refine Ej h1 g1 g2 g3 (by omega) ?_
 rw [hz]
 exact⟨.int _,H,I.tok _,⟨_,rfl⟩,q⟩
theorem Cv {pos:Pos}{keys:List (Option Expr)}{values:List Expr}{trs:List (TE×TE)}(hu:X.A.units+66<cLine)(h:Dd X pos keys values trs)(hall:keys.all (·.isSome)=true)(hl:keys.length=values.length)(h0:keys≠[])
  (h15:keys.length<=15):PE X (.Dict keys values pos) (fun IA H Q=>∀p,H p=none->vw trs IA (upd H p (ff X.prog X.w p [])) fun ps H2=>H2 p=some (ff X.prog X.w p [])/\∃k v d,ps=[(.ref k,v)]/\jM d/\aJ H2 (.ref k) d/\Q (.ref p) (upd H2 p (ff X.prog X.w p [(d,k,v)]))):=by
 intro pins s IA H Q I q
 have hn:=I.aN.fresh (IF s.heap.objs.size)
 obtain⟨_,hb,_⟩:=(show bN X.prog X.w H _ s.heap.objs.size (.dK []) from vv s.heap I.big)
 have D0:nq X.prog X.w s.heap.objs.size [] (s.heap.push { cls:=.type "dict",data:=.dict #[] }):=⟨hb,Jc _,[],_,#[],0,IK _ rfl,⟨rfl,rfl,rfl⟩,rfl,rfl,Kq,.nil⟩
 have I1:=I.laid (a:=s.heap.objs.size) (o:=ff X.prog X.w s.heap.objs.size []) (h':=s.heap.push { cls:=.type "dict",data:=.dict #[] }) (t':=s.toks) (fun _ _ q=>II _ q) (IF _) (pX D0)
 refine wpAny_Dict_any hall hl h0 h15 (aX (h pins _ IA _ _ I1 (q _ hn)) fun ws s2 ⟨ps,H2,I2,rel,e,k,v,d,ep,hk,r,q2⟩=>?_)
 subst ep
 cases rel with
 | @cons _ wp _ _ hr t =>
 cases t
 obtain⟨wk,wv⟩:=wp
 obtain⟨r1,r2⟩:=hr
 cases (show wk=Value.ref k from r1)
 obtain⟨hd0,_,xs,kx,dd⟩:=rC I2 e (fun p hp=>nomatch hp)
 cases kx
 unfold storeAll
 simp only [J1,KP]
 refine Lo (Lo (wpAny_dictSet_heap (knd:=jN X.prog X.w) (show X.A.units+64<cLine by omega) (key_is I2 hk r) dd (fun h' hm' hs'=>Lq (Lq ?_)) (Jc _)))
 obtain⟨o',es,ep,g1,g2,g3,g4,g5,g6⟩:=id hm'
 refine⟨.ref s.heap.objs.size,_,I2.write (t':=_) (x:=s.heap.objs.size) (e:=s.heap.objs.size) (by rw [e];exact trivial) (.inl rfl) (fun c u' hc hu=>(hs'.2 c hc).trans hu) ⟨o',g1⟩ (pX ⟨hd0,(by show 1<=sizeLine;decide),[(d,k,wv)],o',es,ep,g1,g2,g3,g4,g6,.cons ⟨rfl,rfl,r2⟩ .nil⟩),rfl,q2⟩
end
section
variable {X:Cx}
end
theorem sO {A:Around}{k:Nat}(hr:cG k A):A.units+66<cLine:=by have:=hr.un;omega
section
variable {P:Program}{w:World}{K:IC}{mg:Str->Option Value}{base:Heap}
theorem bS.Il {x qual:Str}{st:Stmt}{f:Addr}{fd:FuncData}{N ps:List Str}{k:Nat}{sp:Sp}(F:bS K x qual st f fd)(S:aM N ps (au st))(len:∀vs H Q E,sp vs H Q E->vs.length=ps.length)
  (hbody:∀(cdv:Value) (A:Around) (outer:List Env) (s:Shared) (H:Hp) (vs:List V) (Q:VK) (E:XK),K5 K cdv=true->cG k (A.deeper (envOfC qual (au st) s.heap.objs.size f cdv))->sp vs H Q E ->
   ∃t,fZ (e7 bQ P w K mg base N qual (au st) f cdv A outer s H E).oW (cZ st) t/\t { nx:=fun _ H'=>Q .bg H',rt:=Q } (start N vs) H):aW P w K mg base bQ (k+1) f fd ps sp:=by
 obtain⟨oc,od,kV,doc,pm,an,cdv,ct,osl,rfl,lk,hcd⟩:=F.ex
 refine yD lk hcd S len fun A outer s H vs Q E hr hsp=>?_
 obtain⟨t,h,q⟩:=hbody cdv A outer s H vs Q E (wU hcd) hr hsp
 exact⟨t,h.oW,q⟩
end
def dt:Nat->List (PyData×Addr)->List (PyData×Addr×V)
 | _,[]=>[]
 | n,p::ps=>(p.1,p.2,.int (n:Nat))::dt (n+1) ps
theorem pZ:∀(n:Nat) (ms:List (PyData×Addr)),(dt n ms).length=ms.length
 | _,[]=>rfl
 | n,_::ms=>congrArg (· + 1) (pZ (n+1) ms)
theorem vT:∀(n:Nat) (ms:List (PyData×Addr)) (p:PyData×Addr),dt n (ms++[p])=dt n ms++[(p.1,p.2,.int ((n+ms.length:Nat):Int))]
 | n,[],p=>rfl
 | n,q::ms,p=>by
  show (q.1,q.2,V.int (n:Nat))::dt (n+1) (ms++[p])=_
  rw [vT (n+1) ms p,show n+1+ms.length=n+(q::ms).length by rw [Jr];omega]
  rfl
theorem vU:∀(n:Nat) (ms:List (PyData×Addr)),∀q∈dt n ms,∃p∈ms,q.1=p.1/\q.2.1=p.2
 | _,[],q,hq=>nomatch hq
 | n,p::ms,q,hq=>by
  rcases IE.mp hq with rfl | hq
  ·exact⟨p,IP ..,rfl,rfl⟩
  ·obtain⟨p',hp,r⟩:=vU (n+1) ms q hq
   exact⟨p',IM _ hp,r⟩
theorem lV (d:PyData):∀(n:Nat) (ms:List (PyData×Addr)),eZ (dt n ms) d=if d∈ms.map (·.1) then some (.int ((n+(ms.map (·.1)).idxOf d:Nat):Int)) else none
 | n,[]=>by simp [dt,eZ]
 | n,p::ms=>by
  have ih:=lV d (n+1) ms
  by_cases h:p.1=d
  ·have e1:eZ (dt n (p::ms)) d=some (.int (n:Nat)):=by
    unfold eZ dt
    rw [Ll (by exact decide_eq_true h)]
    rfl
   rw [e1,if_pos (by rw [Jj,h];exact IP ..),Jj,h,List.idxOf_cons_self]
   rfl
  ·have e1:eZ (dt n (p::ms)) d=eZ (dt (n+1) ms) d:=by
    show eZ ((p.1,p.2,V.int (n:Nat))::dt (n+1) ms) d=_
    unfold eZ
    rw [Lm (by rw [decide_eq_false h];decide)]
   rw [e1,ih,Jj]
   by_cases hm:d∈ms.map (·.1)
   ·rw [if_pos hm,if_pos (IM _ hm),List.idxOf_cons,beq_false_of_ne h]
    simp only [cond_false]
    congr 3
    omega
   ·rw [if_neg hm,if_neg (fun z=>(IE.mp z).elim (fun z=>h z.symm) hm)]
structure il (P:Program) (w:World) (C:Addr) (H:Hp) (r m d:Addr) (ms:List (PyData×Addr)):Prop where
 ob:∃dx,H r=some (.ins C dx (sI (.ref m) (.ref d)))
 mem:H m=some (.lst (ms.map fun p=>V.ref p.2))
 nB:H d=some (ff P w d (dt 0 ms))
 keys:∀p∈ms,jM p.1/\aJ H (.ref p.2) p.1
noncomputable def lW (ms:List (PyData×Addr)) (d:PyData) (k:Addr):List (PyData×Addr):=if d∈ms.map (·.1) then ms else ms++[(d,k)]
section
variable {P:Program}{w:World}{C r m d:Addr}{H H':Hp}{ms:List (PyData×Addr)}
theorem il.jX (A:il P w C H r m d ms):Di H (dt 0 ms):=fun q hq=>by
 obtain⟨p,hp,e1,e2⟩:=vU 0 ms q hq
 rw [e1,e2]
 exact A.keys p hp
theorem il.Im (A:il P w C H r m d ms):r≠m/\r≠d/\d≠m:=by
 obtain⟨dx,h1⟩:=A.ob
 refine⟨bU h1 A.mem ?_,bU h1 A.nB ?_,bU A.nB A.mem ?_⟩ <;> (intro z;cases z)
end
section
variable (P:Program)(w:World)(C:Addr)
inductive rE  (vs:List V) (H:Hp) (Q:VK) (_:XK):Prop
 | mk (r dx k:Addr) (d0:PyData) (_:vs=[.ref r,.ref k]) (_:H r=some (.ins C dx [])) (_:jM d0) (_:aJ H (.ref k) d0) (_:bA d0=true) (_:∀(m d:Addr) (H':Hp),il P w C H' r m d [(d0,k)]->(∀c o,H c=some o->c≠r->H' c=some o)->H m=none->H d=none->Q .bg H')
inductive rF  (vs:List V) (H:Hp) (Q:VK) (_:XK):Prop
 | mk (r m d k:Addr) (d0:PyData) (ms:List (PyData×Addr)) (_:vs=[.ref r,.ref k]) (_:il P w C H r m d ms) (_:ms.length<=1000) (_:jM d0) (_:aJ H (.ref k) d0) (_:bA d0=true) (_:(∀p∈ms,bA p.1=true)) (_:∀H',il P w C H' r m d (lW ms d0 k)->lP m d H H'->Q (.int (((lW ms d0 k).map (·.1)).idxOf d0:Nat)) H')
end
inductive nE (ps:List Piece):Nat->Prop
 | zero:nE ps 0
 | step {i k:Nat} {ds:List cH} {e:End}:nE ps i->ps[i]?=some (ds,e)->k∈br e->nE ps k
def cX (ps:List Piece)(k:Nat):Prop:=∃i ds e,nE ps i/\ps[i]?=some (ds,e)/\k∈br e/\k<=i
abbrev kI (ks:List Nat):List Key:=ks.map fun k:Nat=>(Sum.inl (k:Int):Key)
theorem vV {ks:List Nat}{k:Nat}:(Sum.inl (k:Int):Key)∈kI ks↔k∈ks:=by
 rw [IS]
 constructor
 ·rintro⟨x,hx,e⟩
  have:=Sum.inl.inj e
  rw [show k=x by omega];exact hx
 ·intro h;exact⟨k,h,rfl⟩
theorem AL {ks:List Nat}{k:Nat}:LS.putIn (kI ks) (Sum.inl (k:Int))=kI (LS.putIn ks k):=by
 unfold LS.putIn
 by_cases h:k∈ks
 ·rw [if_pos h,if_pos (vV.mpr h)]
 ·rw [if_neg h,if_neg (fun z=>h (vV.mp z))]
  show _=(ks++[k]).map _
  rw [IT];rfl
theorem xV (ks:List Nat):kI ks=(ks.map fun k:Nat=>(k:Int)).map Sum.inl:=by rw [JN];rfl
structure y9 (ps:List Piece) (ks ws:List Nat):Prop where
 nd:ks.Nodup
 lt:∀k∈ks,k<ps.length
 FL:∀k∈ks,nE ps k
 zero:0∈ks
 sub:∀k∈ws,k∈ks
 done:∀k∈ks,k∈ws\/∀ds e,ps[k]?=some (ds,e)->∀j∈br e,j∈ks
theorem y9.all {ps:List Piece}{ks:List Nat}(h:y9 ps ks []):∀k,k∈ks↔nE ps k:=fun k=>by
 refine⟨h.FL k,fun r=>?_⟩
 induction r with
 | zero=>exact h.zero
 | step r hp hk ih=>exact (h.done _ ih).elim (fun z=>nomatch z) fun z=>z _ _ hp _ hk
theorem xW {ps:List Piece}(hin:qN ps){i:Nat}{ds:List cH}{e:End}(h:ps[i]?=some (ds,e)):∀k∈br e,k<ps.length:=fun k hk=>by
 have h1:=hin _ (Ja h)
 cases e with
 | stop=>cases hk
 | go p=>rw [IH.mp hk];exact h1
 | cC b x n p q =>
  rcases IE.mp hk with z | z
  ·rw [z];exact h1.1
  ·rw [IH.mp z];exact h1.2
inductive ug  (vs:List V) (H:Hp) (Q:VK) (_:XK):Prop
 | mk (plv:V) (ps:List Piece) (_:vs=[plv]) (_:aJ H plv (bM ps)) (_:qN ps) (_:0<ps.length) (_:ps.length<=60) (_:∀(t:Addr) (ks:List Nat) (H':Hp),H' t=some (.tup (vN ks))->(∀k,k∈ks↔nE ps k)->(∀k∈ks,k<ps.length)->ks.length<=60->af H H'->Q (.ref t) H')
inductive xX  (vs:List V) (H:Hp) (Q:VK) (_:XK):Prop
 | mk (plv:V) (ps:List Piece) (_:vs=[plv]) (_:aJ H plv (bM ps)) (_:qN ps) (_:0<ps.length) (_:ps.length<=60) (_:∀(t:Addr) (ks:List Nat) (H':Hp),H' t=some (.tup (vN ks))->(∀k,k∈ks↔cX ps k)->ks.length<=60->af H H'->Q (.ref t) H')
theorem nF {ss:List Int}{ks:List Nat}(h:ss.Perm (ks.map fun k:Nat=>(k:Int))):∃ms:List Nat,ss=ms.map (fun k:Nat=>(k:Int))/\ms.Perm ks:=by
 refine⟨ss.map Kj,?_,?_⟩
 ·rw [JN]
  have:∀x∈ss,((fun k:Nat=>(k:Int)) ∘ Kj) x=x:=fun x hx=>by
   obtain⟨k,_,rfl⟩:=IS.mp (h.mem_iff.mp hx)
   show ((Kj (k:Int):Nat):Int)=k
   omega
  rw [KS this,List.map_id']
 ·have:=h.map Kj
  rw [JN] at this
  have e:ks.map (Kj ∘ fun k:Nat=>(k:Int))=ks:=by
   rw [KS (g:=id) (fun x _=>by show Kj (x:Int)=x;omega),List.map_id]
  rw [e] at this
  exact this
abbrev Cp:=Nat×(Str->Sx)
def T0:Str->Sx:=fun _=>dX
def FD (T:Str->Sx)(d:PyData):Prop:=∃ss:List Str,j5 ss/\(∀x,x∈ss↔T x≠dX)/\d=fH T ss
theorem FV.fd {H:Hp}{v:V}{T:Str->Sx}(h:FV H v T):∃d,FD T d/\aJ H v d:=by
 obtain⟨p,xs,ss,rfl,hp,srt,hm,r⟩:=h
 exact⟨_,⟨ss,srt,hm,rfl⟩,.tup hp r⟩
theorem FD.fv {H:Hp}{v:V}{T:Str->Sx}{d:PyData}(h:FD T d)(r:aJ H v d):FV H v T:=by
 obtain⟨ss,srt,hm,rfl⟩:=h
 obtain⟨p,xs,rfl,hp,r⟩:=aJ.bH r
 exact⟨p,xs,ss,rfl,hp,srt,hm,r⟩
theorem FD.unique {T:Str->Sx}{d d':PyData}(h:FD T d)(h':FD T d'):d=d':=by
 obtain⟨ss,srt,hm,rfl⟩:=h
 obtain⟨ss',srt',hm',rfl⟩:=h'
 rw [srt.unique srt' fun x=>by rw [hm,hm']]
theorem AM {a b:Option Int}(h:dO a=dO b):a=b:=by
 cases a with
 | none=>cases b with
  | none=>rfl
  | some _=>cases h
 | some i=>cases b with
  | none=>cases h
  | some j=>injection h with h;rw [h]
theorem FN {a b:Sx}(h:dS a=dS b):a=b:=by
 obtain⟨a1,a2⟩:=a
 obtain⟨b1,b2⟩:=b
 have h1:[dO a1,dO a2]=[dO b1,dO b2]:=by injection h
 injection h1 with h1 h2
 injection h2 with h2 _
 rw [AM h1,AM h2]
theorem xY {T T':Str->Sx}:∀{ss ss':List Str},ss.map (dF T)=ss'.map (dF T')->ss=ss'/\∀x∈ss,T x=T' x
 | [],[],_=>⟨rfl,fun _ h=>nomatch h⟩
 | [],_::_,h=>by cases h
 | _::_,[],h=>by cases h
 | x::ss,y::ss',h=>by
  rw [Jj,Jj] at h
  injection h with h1 h2
  have h3:[PyData.str x,dS (T x)]=[PyData.str y,dS (T' y)]:=by injection h1
  injection h3 with h4 h5
  injection h5 with h5 _
  have exy:x=y:=by injection h4
  subst exy
  obtain⟨e,hr⟩:=xY h2
  refine⟨by rw [e],fun z hz=>?_⟩
  rcases IE.mp hz with rfl | hz
  ·exact FN h5
  ·exact hr z hz
theorem FD.inj {T T':Str->Sx}{d:PyData}(h:FD T d)(h':FD T' d):T=T':=by
 obtain⟨ss,srt,hm,rfl⟩:=h
 obtain⟨ss',srt',hm',e⟩:=h'
 have e':ss.map (dF T)=ss'.map (dF T'):=by injection e
 obtain⟨rfl,hx⟩:=xY e'
 funext x
 by_cases h:x∈ss
 ·exact hx x h
 ·have h1:T x=dX:=Classical.byContradiction fun z=>h ((hm x).mpr z)
  have h2:T' x=dX:=Classical.byContradiction fun z=>h ((hm' x).mpr z)
  rw [h1,h2]
theorem FD.zero:FD T0 (.tuple []):=⟨[],⟨J0.nil,Kq⟩,fun x=>⟨fun h=>(nomatch h),fun h=>absurd rfl h⟩,rfl⟩
def CD (c:Cp)(d:PyData):Prop:=∃fd,FD c.2 fd/\d=.tuple [.int (c.1:Nat),fd]
theorem CD.iff {c c':Cp}{d d':PyData}(h:CD c d)(h':CD c' d'):d=d'↔c=c':=by
 obtain⟨fd,hf,rfl⟩:=h
 obtain⟨fd',hf',rfl⟩:=h'
 constructor
 ·intro e
  have e1:[PyData.int (c.1:Nat),fd]=[PyData.int (c'.1:Nat),fd']:=by injection e
  injection e1 with e2 e3
  injection e3 with e3 _
  have e4:(c.1:Int)=(c'.1:Int):=by injection e2
  subst e3
  exact Prod.ext (by omega) (hf.inj hf')
 ·rintro rfl
  rw [hf.unique hf']
noncomputable instance G3:DecidableEq Cp:=fun a b=>Classical.propDecidable (a=b)
theorem CD.mem {c:Cp}{d:PyData}(h:CD c d):∀{ds:List PyData} {cs:List Cp},Paired (fun d c=>CD c d) ds cs->(d∈ds↔c∈cs)/\ds.idxOf d=cs.idxOf c
 | _,_,.nil=>⟨by simp,rfl⟩
 | _,_,.cons (a:=d') (b:=c') (l₁:=ds) (l₂:=cs) h' t=>by
  obtain⟨i1,i2⟩:=CD.mem h t
  have e:=h'.iff h
  constructor
  ·rw [IE,IE,i1]
   constructor
   ·rintro (z | z)
    ·exact .inl (e.mp z.symm).symm
    ·exact .inr z
   ·rintro (z | z)
    ·exact .inl (e.mpr z.symm).symm
    ·exact .inr z
  ·rw [List.idxOf_cons,List.idxOf_cons]
   by_cases z:d' = d
   ·have z':=e.mp z
    rw [z,z',beq_self_eq_true,beq_self_eq_true]
    rfl
   ·have z':¬c' = c:=fun w=>z (e.mpr w)
    rw [beq_false_of_ne z,beq_false_of_ne z',i2]
theorem rG {T:Str->Sx}:∀ss:List Str,fe (fH T ss)=true
 | []=>rfl
 | x::ss=>by
  have ih:dJ (ss.map (dF T))=true:=rG ss
  show ((true&&(fe (dS (T x))&&true))&&dJ (ss.map (dF T)))=true
  rw [ih]
  obtain⟨a,b⟩:=T x
  cases a <;> cases b <;> rfl
theorem CD.key {c:Cp}{d:PyData}(h:CD c d)(hl:pY c.2):jM d:=by
 obtain⟨fd,⟨ss,srt,hm,rfl⟩,rfl⟩:=h
 refine⟨?_,?_,?_,_,rfl⟩
 ·show (true&&(fe (fH c.2 ss)&&true))=true
  rw [rG];rfl
 ·show (true&&((fH c.2 ss).canLay0&&true))=true
  rw [AH hl ss fun x hx=>(hm x).mp hx];rfl
 ·show max 0 (max (fH c.2 ss).depth 0)+1<=7
  have:=FK c.2 ss
  omega
section
variable (tops:Nat->Prop)(most:Nat)
open Classical in
noncomputable def bC (cs:List Cp) (c:Cp):Cp:=if tops c.1 then (c.1,T0) else if c∈cs\/cs.length<most then c else (c.1,T0)
noncomputable def fg (st:List Cp×List Nat) (l:Cp):List Cp×List Nat:=(LS.putIn st.1 (bC tops most st.1 l),st.2++[(LS.putIn st.1 (bC tops most st.1 l)).idxOf (bC tops most st.1 l)])
noncomputable def cb (cs:List Cp) (ls:List Cp):List Cp×List Nat:=ls.foldl (fg tops most) (cs,[])
theorem wV {cs ls:List Cp}{i:Nat}{l:Cp}(h:ls[i]?=some l):cb tops most cs (ls.take (i+1))=fg tops most (cb tops most cs (ls.take i)) l:=by
 unfold cb
 rw [Ju,h,K3]
 rfl
def gQ (e:End):List Nat->End
 | [a]=>.go a
 | ns=>Cm e ns
noncomputable def fR (ps:List Piece):Nat->List Cp->List Piece->List Cp×List Piece
 | 0,cs,outs=>(cs,outs)
 | f+1,cs,outs=>match cs[outs.length]? with
  | none=>(cs,outs)
  | some c=>match ps[c.1]? with
   | none=>(cs,outs)
   | some pc=>fR ps f (cb tops most cs (cE (cK c.2 pc.1) pc.2)).1 (outs++[(pc.1,gQ pc.2 (cb tops most cs (cE (cK c.2 pc.1) pc.2)).2)])
end
theorem uh {T:Str->Sx}:∀ss:List Str,bA (fH T ss)=true
 | []=>rfl
 | x::ss=>by
  have ih:bB (ss.map (dF T))=true:=uh ss
  show ((true&&(bA (dS (T x))&&true))&&bB (ss.map (dF T)))=true
  rw [ih]
  obtain⟨a,b⟩:=T x
  cases a <;> cases b <;> rfl
theorem CD.j6 {c:Cp}{d:PyData}(h:CD c d):bA d=true:=by
 obtain⟨fd,⟨ss,srt,hm,rfl⟩,rfl⟩:=h
 show (true&&(bA (fH c.2 ss)&&true))=true
 rw [uh];rfl
inductive sP  (vs:List V) (H:Hp) (Q:VK) (_:XK):Prop
 | mk (ea l:Addr) (e:End) (ns:List Nat) (_:vs=[.ref ea,.ref l]) (_:H ea=some (.tup (fo e))) (_:H l=some (.lst (vN ns))) (_:(ns.length=1\/ns.length=(br e).length)) (_:ns.length<=2) (_:∀t H',H' t=some (.tup (fo (gQ e ns)))->af H H'->Q (.ref t) H')
abbrev o9 (ms:List (PyData×Addr))(cs:List Cp):Prop:=Paired (fun d c=>CD c d) (ms.map (·.1)) cs
inductive ui (P:Program) (w:World) (vs:List V) (H:Hp) (Q:VK) (_:XK):Prop
 | mk (la tp d:Addr) (most k:Nat) (T:Str->Sx) (dl:PyData) (hs:List Nat) (fv:V) (ms:List (PyData×Addr)) (cs:List Cp) (tops:Nat->Prop) (_:vs=[.ref la,.ref tp,.ref d,.int (most:Nat)]) (_:H la=some (.tup [.int (k:Nat),fv])) (_:aJ H (.ref la) dl) (_:CD (k,T) dl) (_:pY T) (_:H tp=some (.tup (vN hs))) (_:(∀j,j∈hs↔tops j)) (_:H d=some (ff P w d (dt 0 ms))) (_:Di H (dt 0 ms)) (_:o9 ms cs) (_:∀(a:Addr) (d':PyData) (H':Hp),aJ H' (.ref a) d'->CD (bC tops most cs (k,T)) d'->af H H'->Q (.ref a) H')
structure cV (xs:List Str) (T:Str->Sx):Prop where
 sup:∀x,T x≠dX->x∈xs
 le:∀x,vx (T x).1 (T x).2
theorem cV.zero {xs:List Str}:cV xs T0:=⟨fun x h=>absurd rfl h,fun x=>True.intro⟩
theorem cV.set {xs:List Str}{T:Str->Sx}(h:cV xs T){x:Str}{s:Sx}(hx:x∈xs)(hs:vx s.1 s.2):cV xs (dY T x s):=by
 refine⟨fun y hy=>?_,fun y=>?_⟩
 ·unfold dY at hy
  by_cases e:y=x
  ·rw [e];exact hx
  ·rw [if_neg e] at hy;exact h.sup y hy
 ·unfold dY
  by_cases e:y=x
  ·rw [if_pos e];exact hs
  ·rw [if_neg e];exact h.le y
theorem Ek {w:Str}{lo hi:Option Int}{n:Int}{side:Bool}{s:Sx}(le:vx lo hi)(h:ij w lo hi n side=some s):vx s.1 s.2:=by
 unfold ij at h
 split at h
 ·unfold qO at h
  split at h
  ·unfold ig at h
   cases lo with
   | none=>cases h;exact True.intro
   | some l =>
    dsimp only at h
    split at h
    ·cases h
    ·cases h;show l<=lJ hi n;omega
  ·unfold jn at h
   cases hi with
   | none=>cases h;exact True.intro
   | some l =>
    dsimp only at h
    split at h
    ·cases h
    ·cases h;show lK lo n<=l;omega
 ·unfold Af at h
  split at h
  ·unfold vy at h
   split at h
   ·cases h;exact Int.le_refl n
   ·cases h
  ·unfold lL at h
   split at h
   ·next h1 =>
    split at h
    ·cases h
    ·next h2 =>
     cases h
     subst h1
     cases hi with
     | none=>exact True.intro
     | some b =>
      have:n<=b:=le
      have:¬b=n:=fun z=>h2 (by rw [z])
      show n+1<=b
      omega
   ·next h1 =>
    split at h
    ·next h2 =>
     cases h
     subst h2
     cases lo with
     | none=>exact True.intro
     | some a =>
      have:a<=n:=le
      have:¬a=n:=fun z=>h1 (by rw [z])
      show a<=n-1
      omega
    ·cases h;exact le
theorem cV.Io {xs:List Str}{T:Str->Sx}(h:cV xs T){d:cH}(hd:cB xs d):cV xs (Ci T d):=by
 refine h.set hd.name ?_
 cases d with
 | put x n=>exact Int.le_refl n
 | copy x y=>exact h.le y
 | add x n =>
  have:=h.le x
  show vx (Dg (T x).1 n) (Dg (T x).2 n)
  cases e1:(T x).1 with
  | none=>exact True.intro
  | some a=>cases e2:(T x).2 with
   | none=>exact True.intro
   | some b =>
    rw [e1,e2] at this
    have:a<=b:=this
    show a+n<=b+n
    omega
 | read x=>exact True.intro
 | tell x=>exact h.le x
theorem cV.vW {xs:List Str}:∀{ds:List cH} {T:Str->Sx},cV xs T->(∀d∈ds,cB xs d)->cV xs (cK T ds)
 | [],_,h,_=>h
 | d::ds,T,h,hd=>cV.vW (ds:=ds) (h.Io (hd d (IP ..))) fun e he=>hd e (IM _ he)
theorem xZ {xs:List Str}{c:Nat}{T:Str->Sx}{e:End}(h:cV xs T)(he:ft xs c e):∀p∈cE T e,p.1<c/\cV xs p.2:=fun p hp=>by
 unfold cE at hp
 obtain⟨⟨k,o⟩,ho,hm⟩:=KC.mp hp
 have hz:=KH ho
 cases e with
 | stop=>cases hz.1
 | go q =>
  rw [IH.mp hz.2] at hm
  cases hm
  exact⟨by rw [IH.mp hz.1];exact he,h⟩
 | cC b x n q r =>
  have hk:k<c:=by
   rcases IE.mp hz.1 with z | z
   ·rw [z];exact he.2.2.1
   ·rw [IH.mp z];exact he.2.2.2
  have key:∀side,o=(dQ T b x n side).map (dY T x)->p.1<c/\cV xs p.2:=fun side eo=>by
   dsimp only at hm
   rw [eo] at hm
   cases z:dQ T b x n side with
   | none=>rw [z] at hm;cases hm
   | some s =>
    rw [z] at hm
    cases hm
    exact⟨hk,h.set he.1 (Ek (h.le x) z)⟩
  rcases IE.mp hz.2 with z | z
  ·exact key true z
  ·exact key false (IH.mp z)
theorem lX {xs:List Str}{T:Str->Sx}{e:End}(h:cV xs T):((cE T e).length=1\/(cE T e).length=(br e).length)/\(cE T e).length<=2:=by
 cases e with
 | stop=>exact⟨.inr rfl,Jc _⟩
 | go q=>exact⟨.inl rfl,by show 1<=2;decide⟩
 | cC b x n q r =>
  have e:cE T (.cC b x n q r)=((dQ T b x n true).map fun s=>(q,dY T x s)).toList++((dQ T b x n false).map fun s=>(r,dY T x s)).toList:=by
   unfold cE
   show ([(q,(dQ T b x n true).map (dY T x)),(r,(dQ T b x n false).map (dY T x))].filterMap fun p=>p.2.map fun U=>(p.1,U))=_
   cases dQ T b x n true <;> cases dQ T b x n false <;> rfl
  rw [e]
  cases e1:dQ T b x n true with
  | none=>cases e2:dQ T b x n false with
   | none=>exact (BQ (h.le x) e1 e2).elim
   | some s=>exact⟨.inl rfl,by show 1<=2;decide⟩
  | some s=>cases e2:dQ T b x n false with
   | none=>exact⟨.inl rfl,by show 1<=2;decide⟩
   | some s=>exact⟨.inr rfl,IF 2⟩
theorem cV.lay {xs:List Str}{T:Str->Sx}(h:cV xs T)(hx:∀x∈xs,dP x):pY T:=fun x hx'=>Cs (hx x (h.sup x hx'))
theorem cV.b8 {xs:List Str}{T:Str->Sx}(h:cV xs T):lU T xs.length:=fun ss hs nd=>sub_len nd fun x hx=>h.sup x (hs x hx)
open Classical in
noncomputable def nG (c:Cp):Bool:=decide (c.2≠T0)
theorem uj {α : Type}(p:α->Bool):∀l:List α,l.length=(l.filter p).length+(l.filter fun x=>!p x).length
 | []=>rfl
 | x::l=>by
  have ih:=uj p l
  cases h:p x with
  | true=>rw [Ln h,K6 (by simp [h]),Jr,Jr];omega
  | false=>rw [K6 (by simp [h]),Ln (by simp [h]),Jr,Jr];omega
structure jQ (n most:Nat) (cs:List Cp):Prop where
 nd:cs.Nodup
 b8:(cs.filter nG).length<=most
theorem jQ.len {n most:Nat}{cs:List Cp}(h:jQ n most cs)(hl:∀c∈cs,c.1<n):cs.length<=most+n:=by
 have e:=uj nG cs
 have h2:(cs.filter fun c=>!nG c).length<=n:=by
  have nd2:((cs.filter fun c=>!nG c).map (·.1)).Nodup:=by
   rw [List.Nodup,List.pairwise_map]
   refine (h.nd.filter _).imp_of_mem fun {a b} ha hb hne z=>hne ?_
   have ha2:=(JU.mp ha).2
   have hb2:=(JU.mp hb).2
   simp [nG] at ha2 hb2
   exact Prod.ext z (by rw [ha2,hb2])
  have:=gY (n:=n) nd2 fun x hx=>by
   obtain⟨c,hc,rfl⟩:=IS.mp hx
   exact hl c (JU.mp hc).1
  rw [ID] at this
  exact this
 have:=h.b8
 omega
theorem jQ.put {n most:Nat}{tops:Nat->Prop}{cs:List Cp}{l:Cp}(h:jQ n most cs):jQ n most (LS.putIn cs (bC tops most cs l)):=by
 unfold LS.putIn
 by_cases hm:bC tops most cs l∈cs
 ·rw [if_pos hm];exact h
 ·rw [if_neg hm]
  refine⟨?_,?_⟩
  ·rw [Kh]
   refine⟨h.nd,by simp,fun x hx y hy z=>?_⟩
   rw [IH.mp hy] at z
   exact hm (z ▸ hx)
  ·rw [Kg,IJ]
   by_cases hz:(bC tops most cs l).2=T0
   ·rw [K6 (by simp [nG,hz])]
    simpa using h.b8
   ·have hlt:cs.length<most:=by
     unfold bC at hz hm
     split at hz
     ·exact absurd rfl hz
     ·split at hz
      ·next h1 h2 =>
       rw [if_neg h1,if_pos h2] at hm
       exact h2.resolve_left hm
      ·exact absurd rfl hz
    have h3:(cs.filter nG).length<=cs.length:=J3 _ _
    have h4:(List.filter nG [bC tops most cs l]).length<=1:=J3 _ _
    omega
open Classical in
noncomputable def startT (ps:List Piece):Str->Sx:=fun x=>if x∈ba ps then (some 0,some 0) else dX
open Classical in
noncomputable def iy (ps:List Piece):Cp:=if cX ps 0 then (0,T0) else (0,startT ps)
noncomputable def cy (ps:List Piece) (most:Nat):List Cp×List Piece:=fR (cX ps) most ps (most+ps.length) [iy ps] []
theorem Cw {ps:List Piece}{ss:List Str}(hp:ss.Perm (LS.cD (ba ps)))(hs:sortedS ss=true):FD (startT ps) (nz ss):=by
 have hm:∀x,x∈ss↔x∈ba ps:=fun x=>hp.mem_iff.trans LS.j2
 refine⟨ss,⟨t6 hs,hp.nodup_iff.mpr (LS.pU _)⟩,fun x=>?_,?_⟩
 ·rw [hm]
  unfold startT
  by_cases h:x∈ba ps
  ·rw [if_pos h];exact⟨fun _ z=>(by cases z),fun _=>h⟩
  ·rw [if_neg h];exact⟨fun z=>absurd z h,fun z=>absurd rfl z⟩
 ·unfold nz fH
  congr 1
  refine KS fun x hx=>?_
  unfold dF startT
  rw [if_pos ((hm x).mp hx)]
  rfl
theorem p7 {ps:List Piece}{xs:List Str}{m:Nat}(ok:bY xs m ps):cV xs (startT ps):=by
 refine⟨fun x hx=>?_,fun x=>?_⟩
 ·unfold startT at hx
  by_cases h:x∈ba ps
  ·exact j3 ok x h
  ·rw [if_neg h] at hx;exact absurd rfl hx
 ·unfold startT
  split
  ·exact Int.le_refl 0
  ·exact True.intro
theorem rH {tops:Nat->Prop}{most:Nat}{ps:List Piece}{f:Nat}{cs:List Cp}{outs:List Piece}{c:Cp}{pc:Piece}(h:cs[outs.length]?=some c)(hp:ps[c.1]?=some pc) :
  fR tops most ps (f+1) cs outs=fR tops most ps f (cb tops most cs (cE (cK c.2 pc.1) pc.2)).1 (outs++[(pc.1,gQ pc.2 (cb tops most cs (cE (cK c.2 pc.1) pc.2)).2)]):=by
 conv=>lhs;unfold fR
 rw [h]
 dsimp only
 rw [hp]
theorem uk {tops:Nat->Prop}{most:Nat}{ps:List Piece}{cs:List Cp}{outs:List Piece}(h:cs[outs.length]?=none):∀f,fR tops most ps f cs outs=(cs,outs)
 | 0=>rfl
 | f+1=>by
  conv=>lhs;unfold fR
  rw [h]
theorem oH {X:Cx}{K:IC}{e:Expr}{f:Str}{pos:Pos}{ta:TE}(hK:X.K=K)(he:PE X e ta)(hb:attributeBase e f X.env (eval e X.env)=eval e X.env):PE X (.Attribute e f pos) (E3 K ta f):=by
 subst hK
 exact cS he hb
theorem i5 {tops:Nat->Prop}{most n:Nat}{xs:List Str}:∀{ls cs:List Cp} {ns:List Nat},jQ n most cs->(∀c∈cs,c.1<n/\cV xs c.2)->(∀c∈ls,c.1<n/\cV xs c.2)->jQ n most (ls.foldl (fg tops most) (cs,ns)).1/\(∀c∈(ls.foldl (fg tops most) (cs,ns)).1,c.1<n/\cV xs c.2)/\(ls.foldl (fg tops most) (cs,ns)).2.length=ns.length+ls.length/\∃more,(ls.foldl (fg tops most) (cs,ns)).1=cs++more
 | [],cs,ns,h,hc,_=>⟨h,hc,rfl,[],by simp⟩
 | l::ls,cs,ns,h,hc,hl=>by
  have hl0:=hl l (IP ..)
  have hcp:(bC tops most cs l).1<n/\cV xs (bC tops most cs l).2:=by
   unfold bC
   split
   ·exact⟨hl0.1,cV.zero⟩
   ·split
    ·exact hl0
    ·exact⟨hl0.1,cV.zero⟩
  have hc':∀c∈LS.putIn cs (bC tops most cs l),c.1<n/\cV xs c.2:=fun c hc'=>by
   rcases LS.iZ.mp hc' with z | z
   ·exact hc c z
   ·rw [z];exact hcp
  obtain⟨i1,i2,i3,more,i4⟩:=i5 (tops:=tops) (ls:=ls) (cs:=LS.putIn cs (bC tops most cs l)) (ns:=ns++[(LS.putIn cs (bC tops most cs l)).idxOf (bC tops most cs l)]) (h.put (l:=l)) hc' fun c hc=>hl c (IM _ hc)
  refine⟨i1,i2,?_,?_⟩
  ·refine Eq.trans (show (ls.foldl (fg tops most) (fg tops most (cs,ns) l)).2.length=(ns++[(LS.putIn cs (bC tops most cs l)).idxOf (bC tops most cs l)]).length+ls.length from i3) ?_
   simp only [IJ,Jr,KR]
   omega
  ·have i4':(ls.foldl (fg tops most) (fg tops most (cs,ns) l)).1=LS.putIn cs (bC tops most cs l)++more:=i4
   show ∃more,(ls.foldl (fg tops most) (fg tops most (cs,ns) l)).1=cs++more
   rw [i4']
   unfold LS.putIn
   split
   ·exact⟨more,rfl⟩
   ·exact⟨bC tops most cs l::more,by simp⟩
theorem il.mv {P:Program}{w:World}{C r m d:Addr}{H H':Hp}{ms:List (PyData×Addr)}(A:il P w C H r m d ms)(nls:∀p∈ms,bA p.1=true)(k:∀c o,H c=some o->(c=r\/c=m\/c=d)->H' c=some o)(kt:∀p zs,H p=some (.tup zs)->H' p=some (.tup zs)):il P w C H' r m d ms:=by
 obtain⟨⟨dx,h1⟩,h2,h3,h4⟩:=A
 exact⟨⟨dx,k _ _ h1 (.inl rfl)⟩,k _ _ h2 (.inr (.inl rfl)),k _ _ h3 (.inr (.inr rfl)),fun p hp=>⟨(h4 p hp).1,(h4 p hp).2.av kt (nls p hp)⟩⟩
theorem o9.j6 {ms:List (PyData×Addr)}{cs:List Cp}(h:o9 ms cs):∀p∈ms,bA p.1=true:=by
 have go:∀{ds:List PyData} {cs:List Cp},Paired (fun d c=>CD c d) ds cs->∀d∈ds,bA d=true:=by
  intro ds cs h
  induction h with
  | nil=>intro d hd;cases hd
  | cons r _ ih =>
   intro d hd
   rcases IE.mp hd with rfl | hd
   ·exact r.j6
   ·exact ih d hd
 exact fun p hp=>go h p.1 (IS.mpr ⟨p,hp,rfl⟩)
theorem o9.put {ms:List (PyData×Addr)}{cs:List Cp}{c:Cp}{d:PyData}{a:Addr}(h:o9 ms cs)(cd:CD c d):o9 (lW ms d a) (LS.putIn cs c):=by
 obtain⟨hm,_⟩:=cd.mem h
 unfold lW LS.putIn
 by_cases z:c∈cs
 ·rw [if_pos z,if_pos (hm.mpr z)];exact h
 ·rw [if_neg z,if_neg (fun w=>z (hm.mp w))]
  show Paired _ ((ms++[(d,a)]).map (·.1)) _
  rw [IT]
  exact eJ h (.cons cd .nil)
theorem x8 {H:Hp}:∀{ms:List (PyData×Addr)},(∀p∈ms,aJ H (.ref p.2) p.1)->aP H (ms.map fun p=>V.ref p.2) (ms.map (·.1))
 | [],_=>.nil
 | p::ms,h=>.cons (h p (IP ..)) (x8 fun q hq=>h q (IM _ hq))
section
variable {prog:Program}{w:World}{A:Around}{E:Value->Shared->Prop}{s:Shared}
end
section
variable {X:Cx}
end
theorem x9 {ds:List PyData}{cs:List Cp}(h:Paired (fun d c=>CD c d) ds cs)(hl:∀c∈cs,pY c.2):∀e∈ds,jM e:=by
 induction h with
 | nil=>intro e he;cases he
 | cons r _ ih =>
  intro e he
  rcases IE.mp he with rfl | he
  ·exact r.key (hl _ (IP ..))
  ·exact ih (fun c hc=>hl c (IM _ hc)) e he
section
variable {tops:Nat->Prop}{most:Nat}
def Goes (tops:Nat->Prop)(most:Nat)(cs:List Cp)(ls:List Cp)(ns:List Nat):Prop:=Paired (fun l k=>∃c':Cp,cs[k]?=some c'/\c'.1=l.1/\((¬tops l.1/\c'.2=l.2)\/(c'.2=T0/\(tops l.1\/most<=cs.length)))) ls ns
theorem Goes.more {cs ls more:List Cp}{ns:List Nat}(h:Goes tops most cs ls ns):Goes tops most (cs++more) ls ns:=by
 unfold Goes at h ⊢
 induction h with
 | nil=>exact .nil
 | cons r _ ih =>
  obtain⟨c',h1,h2,h3⟩:=r
  refine .cons ⟨c',?_,h2,?_⟩ ih
  ·rw [JY (IY.mp h1).1];exact h1
  ·rcases h3 with h3 | ⟨h3,h4 | h4⟩
   ·exact .inl h3
   ·exact .inr ⟨h3,.inl h4⟩
   ·exact .inr ⟨h3,.inr (by rw [IJ];omega)⟩
theorem Cy {cs:List Cp}{c:Cp}:(LS.putIn cs c)[(LS.putIn cs c).idxOf c]?=some c:=by
 have hm:c∈LS.putIn cs c:=LS.iZ.mpr (.inr rfl)
 have hl:=List.idxOf_lt_length_of_mem hm
 rw [KW hl,List.getElem_idxOf hl]
theorem pf:∀{ls cs:List Cp} {ns:List Nat},∃more ms,(ls.foldl (fg tops most) (cs,ns)).1=cs++more/\(ls.foldl (fg tops most) (cs,ns)).2=ns++ms/\Goes tops most (ls.foldl (fg tops most) (cs,ns)).1 ls ms
 | [],cs,ns=>⟨[],[],by simp,by simp,.nil⟩
 | l::ls,cs,ns=>by
  obtain⟨more,ms,e1,e2,g⟩:=pf (ls:=ls) (cs:=LS.putIn cs (bC tops most cs l)) (ns:=ns++[(LS.putIn cs (bC tops most cs l)).idxOf (bC tops most cs l)])
  have e0:(l::ls).foldl (fg tops most) (cs,ns)=ls.foldl (fg tops most) (LS.putIn cs (bC tops most cs l),ns++[(LS.putIn cs (bC tops most cs l)).idxOf (bC tops most cs l)]):=rfl
  rw [e0]
  have hp:∃m0,LS.putIn cs (bC tops most cs l)=cs++m0:=by
   unfold LS.putIn
   split
   ·exact⟨[],by simp⟩
   ·exact⟨_,rfl⟩
  obtain⟨m0,em⟩:=hp
  have hat:=Cy (cs:=cs) (c:=bC tops most cs l)
  refine⟨m0++more,(LS.putIn cs (bC tops most cs l)).idxOf (bC tops most cs l)::ms,by rw [e1,em,Jw],by rw [e2,Jw];rfl,.cons ⟨bC tops most cs l,?_,?_,?_⟩ g⟩
  ·rw [e1,JY (IY.mp hat).1];exact hat
  ·unfold bC
   split
   ·rfl
   ·split <;> rfl
  ·have hl:cs.length<=(ls.foldl (fg tops most) (LS.putIn cs (bC tops most cs l),ns++[(LS.putIn cs (bC tops most cs l)).idxOf (bC tops most cs l)])).1.length:=by rw [e1,em,IJ,IJ];omega
   generalize (ls.foldl (fg tops most) (LS.putIn cs (bC tops most cs l),ns++[(LS.putIn cs (bC tops most cs l)).idxOf (bC tops most cs l)])).1=cz at hl
   unfold bC
   by_cases h1:tops l.1
   ·rw [if_pos h1];exact .inr ⟨rfl,.inl h1⟩
   ·rw [if_neg h1]
    by_cases h2:l∈cs\/cs.length<most
    ·rw [if_pos h2];exact .inl ⟨h1,rfl⟩
    ·rw [if_neg h2];exact .inr ⟨rfl,.inr (by have:¬cs.length<most:=fun z=>h2 (.inr z);omega)⟩
def HM (tops:Nat->Prop)(most:Nat)(ps:List Piece)(cs:List Cp)(outs:List Piece):Prop:=∀(j:Nat) (p:Piece),outs[j]?=some p->∃(c:Cp) (pc:Piece) (ns:List Nat),cs[j]?=some c/\ps[c.1]?=some pc/\p=(pc.1,gQ pc.2 ns)/\Goes tops most cs (cE (cK c.2 pc.1) pc.2) ns
structure sQ (tops:Nat->Prop) (most:Nat) (xs:List Str) (ps:List Piece) (cs:List Cp) (outs:List Piece):Prop where
 um:jQ ps.length most cs
 ok:∀c∈cs,c.1<ps.length/\cV xs c.2
 le:outs.length<=cs.length
 rel:HM tops most ps cs outs
theorem sQ.step {xs:List Str}{ps:List Piece}{cs:List Cp}{outs:List Piece}{m:Nat}(h:sQ tops most xs ps cs outs)(bW:bY xs m ps){c:Cp}{pc:Piece}(hc:cs[outs.length]?=some c)(hp:ps[c.1]?=some pc) :
  sQ tops most xs ps (cb tops most cs (cE (cK c.2 pc.1) pc.2)).1 (outs++[(pc.1,gQ pc.2 (cb tops most cs (cE (cK c.2 pc.1) pc.2)).2)])/\∃more,(cb tops most cs (cE (cK c.2 pc.1) pc.2)).1=cs++more:=by
 have hcm:=Ja hc
 have dok:=bW.fb _ (Ja hp)
 have eok:=bW.ends _ (Ja hp)
 have bok:=(h.ok c hcm).2.vW dok.2
 obtain⟨k1,k2,_,_⟩:=i5 (tops:=tops) (ls:=cE (cK c.2 pc.1) pc.2) (ns:=[]) h.um h.ok (xZ bok eok)
 obtain⟨more,ms,e1,e2,g⟩:=pf (tops:=tops) (most:=most) (ls:=cE (cK c.2 pc.1) pc.2) (cs:=cs) (ns:=[])
 have hol:outs.length<cs.length:=(IY.mp hc).1
 refine⟨⟨k1,k2,?_,?_⟩,more,e1⟩
 ·unfold cb
  rw [e1,IJ,IJ]
  show _+1<=_
  omega
 ·intro j p hj
  unfold cb
  by_cases hjl:j<outs.length
  ·rw [JY hjl] at hj
   obtain⟨c',pc',ns',h1,h2,h3,h4⟩:=h.rel j p hj
   refine⟨c',pc',ns',?_,h2,h3,?_⟩
   ·rw [e1,JY (by omega)];exact h1
   ·rw [e1];exact h4.more
  ·have hje:j=outs.length:=by
    have:=(IY.mp hj).1
    rw [IJ] at this
    have:j<outs.length+1:=this
    omega
   subst hje
   rw [KJ (IF _),Nat.sub_self] at hj
   cases hj
   refine⟨c,pc,ms,?_,hp,?_,g⟩
   ·rw [e1,JY hol];exact hc
   ·unfold cb
    rw [e2]
    rfl
theorem uo {xs:List Str}{ps:List Piece}{m:Nat}(bW:bY xs m ps):∀(fu:Nat) {cs:List Cp} {outs:List Piece},sQ tops most xs ps cs outs->fu+outs.length=most+ps.length ->
  sQ tops most xs ps (fR tops most ps fu cs outs).1 (fR tops most ps fu cs outs).2/\(fR tops most ps fu cs outs).2.length=(fR tops most ps fu cs outs).1.length/\∃more,(fR tops most ps fu cs outs).1=cs++more
 | 0,cs,outs,h,hf=>by
  have:=h.um.len fun c hc=>(h.ok c hc).1
  have:=h.le
  exact⟨h,by show outs.length=cs.length;omega,[],by show cs=_;simp⟩
 | fu+1,cs,outs,h,hf=>by
  cases hc:cs[outs.length]? with
  | none =>
   rw [uk hc]
   have:cs.length<=outs.length:=List.getElem?_eq_none_iff.mp hc
   have:=h.le
   exact⟨h,by show outs.length=cs.length;omega,[],by simp⟩
  | some c =>
   have hcl:=(h.ok c (Ja hc)).1
   have hps:ps[c.1]?=some ps[c.1]:=by simp [hcl]
   rw [rH hc hps]
   obtain⟨h',more,e⟩:=h.step bW hc hps
   obtain⟨i1,i2,more',i3⟩:=uo bW fu h' (by rw [IJ];show fu+(_+1)=_;omega)
   exact⟨i1,i2,more++more',by rw [i3,e,Jw]⟩
end
theorem jR {xs:List Str}{ps:List Piece}{m most:Nat}(bW:bY xs m ps)(hn0:0<ps.length)(hm:1<=most) :
  sQ (cX ps) most xs ps (cy ps most).1 (cy ps most).2/\(cy ps most).2.length=(cy ps most).1.length/\∃more,(cy ps most).1=[iy ps]++more:=by
 refine uo bW _ ⟨⟨by simp,IQ (J3 _ _) hm⟩,fun c hc=>?_,Jc _,fun j p hj=>(by cases hj)⟩ rfl
 rw [IH.mp hc]
 unfold iy
 split
 ·exact⟨hn0,cV.zero⟩
 ·exact⟨hn0,p7 bW⟩
theorem El {xs:List Str}{n n':Nat}{e:End}{ns:List Nat}(h:ft xs n e)(hl:ns.length=1\/ns.length=(br e).length)(hb:∀k∈ns,k<n'):ft xs n' (gQ e ns):=by
 match ns,hl,hb with
 | [a],_,hb=>exact hb a (IH.mpr rfl)
 | [],hl,_ =>
  cases e with
  | stop=>exact True.intro
  | go p=>exact absurd (hl.resolve_left (by decide)) (by show ¬0=1;decide)
  | cC b x n p q=>exact absurd (hl.resolve_left (by decide)) (by show ¬0=2;decide)
 | [a,c],hl,hb =>
  have hl:=hl.resolve_left (by show ¬2=1;decide)
  cases e with
  | stop=>exact absurd hl (by show ¬2=0;decide)
  | go p=>exact absurd hl (by show ¬2=1;decide)
  | cC b x n p q=>exact⟨h.1,h.2.1,hb a (by simp),hb c (by simp)⟩
 | _::_::_::_,hl,_ =>
  exfalso
  have h3:(br e).length<=2:=by cases e <;> (show _<=2) <;> simp [br]
  simp only [Jr] at hl
  omega
theorem Goes.lt {tops:Nat->Prop}{most:Nat}{cs ls:List Cp}{ns:List Nat}(h:Goes tops most cs ls ns):∀k∈ns,k<cs.length:=by
 unfold Goes at h
 induction h with
 | nil=>intro k hk;cases hk
 | cons r _ ih =>
  intro k hk
  rcases IE.mp hk with rfl | hk
  ·obtain⟨c',h1,_⟩:=r
   exact (IY.mp h1).1
  ·exact ih k hk
theorem uq {xs:List Str}{ps:List Piece}{m most:Nat}(bW:bY xs m ps)(hn0:0<ps.length)(hm:1<=most):bY xs m (cy ps most).2:=by
 obtain⟨I,hl,_⟩:=jR bW hn0 hm
 have key:∀p∈(cy ps most).2,(p.1.length<=m/\∀d∈p.1,cB xs d)/\ft xs (cy ps most).2.length p.2:=fun p hp=>by
  obtain⟨j,hj⟩:=K7 hp
  obtain⟨c,pc,ns,h1,h2,rfl,h4⟩:=I.rel j p hj
  have hpm:=Ja h2
  have bok:=(I.ok c (Ja h1)).2.vW (bW.fb _ hpm).2
  refine⟨(show pc.1.length<=m/\∀d∈pc.1,cB xs d from bW.fb pc hpm),El (bW.ends _ hpm) ?_ (by rw [hl];exact h4.lt)⟩
  rw [<-Paired.length h4]
  exact (lX (e:=pc.2) bok).1
 exact⟨fun p hp=>(key p hp).1,fun p hp=>(key p hp).2⟩
theorem ur {xs:List Str}{ps:List Piece}{m most:Nat}(bW:bY xs m ps)(hn0:0<ps.length)(hm:1<=most):0<(cy ps most).2.length/\(cy ps most).2.length<=most+ps.length:=by
 obtain⟨I,hl,more,e⟩:=jR bW hn0 hm
 have h1:=I.um.len fun c hc=>(I.ok c hc).1
 rw [hl]
 refine⟨?_,h1⟩
 rw [e]
 exact Nat.succ_pos _
theorem sR {ds ds':List PyData}{cs:List Cp}(h:Paired (fun d c=>CD c d) ds cs)(h':Paired (fun d c=>CD c d) ds' cs):ds=ds':=by
 induction h generalizing ds' with
 | nil=>cases h';rfl
 | cons r _ ih =>
  cases h' with
  | cons r' t'=>rw [ih t',(r.iff r').mpr rfl]
theorem Em {ds:List PyData}{cs:List Cp}(h:Paired (fun d c=>CD c d) ds cs)(hl:∀c∈cs,pY c.2):(∀d∈ds,d.canLay0=true)/\∀d∈ds,d.depth<=7 :=
 ⟨fun d hd=>(x9 h hl d hd).lay,fun d hd=>(x9 h hl d hd).dep⟩
theorem bY.up {xs:List Str}{m k:Nat}{ps:List Piece}(h:bY xs m ps)(hk:m<=k):bY xs k ps:=⟨fun p hp=>⟨IQ (h.fb p hp).1 hk,(h.fb p hp).2⟩,h.ends⟩
section
variable {X:Cx}
end
theorem za {w:Str->Int}:Sound T0 w:=fun x=>rfl
theorem Cz {T:Str->Sx}{b:Bool}{x:Str}{n:Int}{q r:Nat}:cE T (.cC b x n q r)=((dQ T b x n true).map fun s=>(q,dY T x s)).toList++((dQ T b x n false).map fun s=>(r,dY T x s)).toList:=by
 unfold cE
 show ([(q,(dQ T b x n true).map (dY T x)),(r,(dQ T b x n false).map (dY T x))].filterMap fun p=>p.2.map fun U=>(p.1,U))=_
 cases dQ T b x n true <;> cases dQ T b x n false <;> rfl
theorem sS {H:Hp}:∀ns:List Nat,aP H (ns.map fun k=>V.int (k:Nat)) (ns.map fun k=>PyData.int (k:Nat))
 | []=>.nil
 | n::ns=>.cons (.int n) (sS ns)
abbrev FO:=List (Option (Str->Sx))
def Met (tab:FO)(ld:Nat×(Str->Sx)):Prop:=∃T,tab[ld.1]?=some (some T)/\∀x,jP (ld.2 x) (T x)=true
def Ip (s t:Sx):Sx:=(if jP t (s.1,none)=true then s.1 else none,if jP t (none,s.2)=true then s.2 else none)
def Iq (T U:Str->Sx):Str->Sx:=fun x=>Ip (T x) (U x)
def HN (o:Option (Str->Sx))(U:Str->Sx):Str->Sx:=match o with
 | none=>U
 | some T=>Iq T U
section
variable {X:Cx}{pos:Pos}
end
section
variable {X:Cx}
end
section
variable {X:Cx}
end
theorem lY {α β : Type}{F:α->β->Prop}:∀{l:List α} {m:List β},Paired F l m->∀{i:Nat} {y:β},m[i]?=some y->∃x,l[i]?=some x/\F x y
 | _,_,.nil,i,y,h=>by simp at h
 | _,_,.cons f t,0,y,h=>by cases h;exact⟨_,rfl,f⟩
 | _,_,.cons f t,i+1,y,h=>lY t h
theorem eM {α β : Type}{F:α->β->Prop}:∀{l:List α} {m:List β},Paired F l m->l.length=m.length
 | _,_,.nil=>rfl
 | _,_,.cons f t=>congrArg (· + 1) (eM t)
inductive nH  (vs:List V) (H:Hp) (Q:VK) (_:XK):Prop
 | mk (fv:V) (p:Addr) (ws:List V) (ds:List cH) (T:Str->Sx) (xs:List Str) (_:vs=[fv,.ref p]) (_:FV H fv T) (_:H p=some (.tup ws)) (_:aP H ws (ds.map cu)) (_:cV xs T) (_:(∀d∈ds,cB xs d)) (_:xs.length<64) (_:∀v H',FV H' v (cK T ds)->af H H'->Q v H')
theorem En {n i:Nat}(h:i<n):mC n (i:Int)=some i:=by
 unfold mC
 simp
 omega
section
variable {X:Cx}
end
section
variable {X:Cx}
end
theorem FP {c:Bool}{A B C:Prop}(hz:C)(hx:C->c=true->A):if c=true then A else (if false=true then B else C):=by
 cases c
 ·exact hz
 ·exact hx hz rfl
theorem bY.Ir {xs:List Str}{m:Nat}{ps:List Piece}(h:bY xs m ps)(ys:List Str):bY (xs++ys) m ps:=by
 have l:∀{x},x∈xs->x∈xs++ys:=fun h=>Jz _ h
 refine⟨fun p hp=>⟨(h.fb p hp).1,fun d hd=>?_⟩,fun p hp=>?_⟩
 ·have:=(h.fb p hp).2 d hd
  cases d with
  | put x n=>exact⟨l this.1,this.2⟩
  | copy x y=>exact⟨l this.1,l this.2⟩
  | add x n=>exact⟨l this.1,this.2⟩
  | read x=>exact l this
  | tell x=>exact l this
 ·have:=h.ends p hp
  obtain⟨ds,e⟩:=p
  cases e with
  | stop=>exact True.intro
  | go q=>exact this
  | cC b x n q r=>exact⟨l this.1,this.2⟩
section
variable {prog:Program}{w:World}{A:Around}{E:Value->Shared->Prop}{s:Shared}
theorem uu (hh:A.handled=none)(it l:Addr)(hne:l≠it)(its:Array Value):Draws prog w A it [it,l] its.size (fun i v=>its[i]?=some v) (fun i h=>h.IsTupleIter it l i/\h.IsTuple l its) where
 live:=fun _ _ st=>let ⟨o,ho,_⟩:=st.1;⟨o,ho⟩
 frame:=fun _ _ _ st hk=>⟨st.1.at fun o e=>hk it (by simp) o e,gW st.2 fun o e=>hk l (by simp) o e⟩
 item:=fun i s Q E hi st hQ=>qF st.1 st.2 (x:=its[i]) (by simp [hi]) fun g gi sb=>hQ _ g s.toks (by simp [hi]) ⟨gi,gW st.2 fun o e=>sb.extBut _ _ hne e⟩ sb
 done:=fun s Q E st hE=>sA hh st.1 st.2 (by simp) hE
abbrev Dj (h:Heap)(l:Addr):Heap:=h.push { cls:=.type "tuple_iterator",data:=.fields #[.ref l,.int 0 0] }
abbrev G4 (h:Heap)(l:Addr):Heap:=(Dj h l).push { cls:=.type "enumerate",data:=.fields #[.none,.bool false,.ref h.objs.size,rawInt 0,.none,.none] }
theorem FQ (l:Addr) (its:Array Value):Meets (Builtin.«enumerate.__new__» ⟨[.type "enumerate",.ref l],[]⟩) (fun _ R s=>s.heap.IsTuple l its/\R (.ok (.ret (.ref (Dj s.heap l).objs.size))) { s with heap:=G4 s.heap l }) :=
 .of_wp fun P w' A' R' s' hh=>by
  obtain⟨hp,g,d,tk,os⟩:=s'
  obtain⟨gl,hh⟩:=hh
  have hsub:=sub_enumerate
  have la:Heap.IsTuple (Shared.heap ⟨hp,g,d,tk,os⟩) l its:=gl
  obtain⟨ol,el,cl,kl,dl⟩:=id gl
  wp_walk using AutoSeq1.wpAny_loadPart' el
  refine wpAny_stack_any fun st=>Lq ?_
  split
  ·rename_i c _ _ _ _ _
   cases (c == Value.type "enumerate")
   ·wp_walk using AutoSeq1.wpAny_loadPart' el,LJ la
    exact⟨_,rfl,hh⟩
   ·wp_walk using AutoSeq1.wpAny_loadPart' el,LJ la
    exact⟨_,rfl,hh⟩
  ·wp_walk using AutoSeq1.wpAny_loadPart' el,LJ la
   exact⟨_,rfl,hh⟩
theorem Eo {l:Addr}{its:Array Value}{Q:Value->Shared->Prop}(hL:s.heap.IsTuple l its)
  (h:∀g,IsEnum g (s.heap.objs.size+1) s.heap.objs.size 0 .none->g.IsTupleIter s.heap.objs.size l 0->(∀b o,s.heap.get? b=some o->g.get? b=some o)->Q (.ref (s.heap.objs.size+1)) { s with heap:=g }) :
  wpAny (model prog w) A (call (.type "enumerate") [.ref l]) Q E s:=by
 refine callType_new F.called_enumerate (by decide) (F.typeCall_enumerate_1 _) (F.newCall_enumerate_1 _) (fun obj=>F.args_object_init_2 obj _) F.entry_enumerate_new (FQ l its) ⟨hL,?_⟩
 have hz:(Dj s.heap l).objs.size=s.heap.objs.size+1:=Jh ..
 have he:IsEnum (G4 s.heap l) (Dj s.heap l).objs.size s.heap.objs.size 0 .none:=IK _ rfl
 show _/\_
 rw [hz] at he ⊢
 exact⟨⟨_,he,rfl⟩,h _ he ⟨_,II _ (IK _ rfl),rfl,rfl⟩ fun b o x=>II _ (II _ x)⟩
end
def ph (Sq:Hp->Addr->List V->Prop)(a:Addr):It :=
 ⟨fun i H=>∃xs x,Sq H a xs/\xs[i]?=some x,
  fun i H v H'=>∃t x,v=.ref t/\H t=none/\H' = upd H t (.tup [.int (i:Nat),x])/\∀xs,Sq H a xs->xs[i]?=some x,
  fun i H=>∃xs,Sq H a xs/\xs.length=i⟩
section
variable {X:Cx}{pins:List (Addr×Obj)}{IA : List (Option V)}{H:Hp}{s:Shared}
theorem ya {a e it:Addr}{n i:Nat}{x:V}{Pv:Nat->Value->Prop}{St:Nat->Heap->Prop}{E:Value->Shared->Prop}{elts:List Expr}{kk:Nat}{pos:Pos}
  (D:Draws X.prog X.w X.A.in1 it [it,a] n Pv St) (I:Inv X pins IA H s) (hf:∀b∈[e,it],hX X pins H b) (he:∃old,IsEnum s.heap e it i old) (hst:St i s.heap) (hlt:i<n) (hne:e≠it) (hea:e≠a) (hx:∀v,Pv i v->RelV x v) :
  wpAny (model X.prog X.w) X.A (pyNext (.ref e)) (fun r s1=>∃u,r=some u /\
   wpAny (model X.prog X.w) X.A (letOwnedTupleGo (.Tuple elts kk pos) (.ref e) u) (fun _ s2=>∃v H',Inv X pins IA H' s2/\RelV v u/\(∃t,v=.ref t/\H t=none/\H' = upd H t (.tup [.int (i:Nat),x]))/\((∃old,IsEnum s2.heap e it (i+1:Nat) old)/\St (i+1) s2.heap)/\∀b∈[e,it],H' b=none) E s1) E s:=by
 obtain⟨old,he⟩:=he
 have lite:it<s.heap.objs.size:=by obtain⟨_,y⟩:=D.live _ _ hst;exact IG y
 have lee:e<s.heap.objs.size:=IG he
 have sz:∀c∈[e,it],c≠s.heap.objs.size:=fun c hc z=>by
  subst z
  simp only [IE,Jq,or_false] at hc
  rcases hc with z | z
  ·rw [<-z] at lee;exact absurd lee (Jd _)
  ·rw [<-z] at lite;exact absurd lite (Jd _)
 refine wpAny_pyNext_enum_itemD D he hst hlt hne (by simp only [IE,Jq,or_false,not_or];exact⟨hne,hea⟩) fun xv h' tk px ho hs' hT hsz hk=>?_
 refine⟨.ref s.heap.objs.size,rfl,wpAny_letOwnedTupleGo_enum ho fun g' ge sb=>?_⟩
 have fr:=I.aN.fresh (a:=s.heap.objs.size) (IF _)
 have I1:Inv X pins IA (upd H s.heap.objs.size (.tup [.int (i:Nat),x])) { s with heap:=s.heap.push { cls:=.type "tuple",data:=.seq #[.int i tk,xv] },toks:=tk+1 } :=
  I.laid (fun _ _ e=>II _ e) (IF _) ⟨by show 2<=sizeLine;decide,[.int i tk,xv],.cons ⟨tk,rfl⟩ (.cons (hx xv px) .nil),by first | exact IsTup.new _ _ | exact⟨_,IK _ rfl,rfl,_,rfl,rfl⟩⟩
 have f1:∀c∈[e,it],hX X pins (upd H s.heap.objs.size (.tup [.int (i:Nat),x])) c:=fun c hc=>by
  obtain⟨f0,fr'⟩:=hf c hc
  exact⟨by rw [ao (sz c hc)];exact f0,fr'⟩
 have I2:Inv X pins IA (upd H s.heap.objs.size (.tup [.int (i:Nat),x])) { s with heap:=g',toks:=tk+1 }:=Inv.iD (s:={ s with heap:=s.heap.push { cls:=.type "tuple",data:=.seq #[.int i tk,xv] },toks:=tk+1 }) (fp:=[e,it]) (h':=g') (t':=tk+1) I1 (fun c o hc q=>by
  simp only [IE,Jq,or_false,not_or] at hc
  refine sb.extBut _ _ hc.1 ?_
  rcases Li q with ⟨rfl,rfl⟩ | q
  ·exact hT
  ·exact hk c o hc.1 hc.2 q) f1
 refine⟨.ref s.heap.objs.size,_,I2,rfl,⟨_,rfl,fr,rfl⟩,⟨⟨xv,by simpa using ge⟩,D.frame _ _ _ hs' fun b hb o q=>(sb.2 b fun z=>?_).trans q⟩,fun c hc=>(f1 c hc).1⟩
 subst z
 simp only [IE,Jq,or_false] at hb
 exact hb.elim hne hea
theorem zb {P:Program}{w:World}{K:IC}{elts:List Expr}{kk:Nat}{pos:Pos}(a e it:Addr)(hne:e≠it)(hea:e≠a)(hia:a≠it) :
  Turn P w K (.Tuple elts kk pos) (ph (aw K) a) [e,it] e (fun i h=>(∃old,IsEnum h e it (i:Nat) old)/\h.IsTupleIter it a i) where
 mem:=by simp
 obj:=fun i h st c hc=>by
  obtain⟨⟨old,ge⟩,⟨oj,ej,cj,dj⟩⟩:=st
  simp only [IE,Jq,or_false] at hc
  rcases hc with rfl | rfl
  ·exact⟨_,ge,fun v e=>by cases e⟩
  ·exact⟨oj,ej,fun v e=>by rw [dj] at e;cases e⟩
 keep:=fun i h g st kp=>by
  obtain⟨⟨old,ge⟩,⟨oj,ej,rj⟩⟩:=st
  exact⟨⟨old,kp e (by simp) _ ge⟩,⟨oj,kp it (by simp) _ ej,rj⟩⟩
 item:=by
  intro X hP hw hK hc i pins s IA H E I hf st hg
  subst hP hw hK
  obtain⟨xs,x,ha,hx⟩:=hg
  obtain⟨is,ra,pa,_⟩:=I.tuple ha
  have la:=ra.length
  have hil:i<is.toArray.size:=by have:=(IY.mp hx).1;simp;omega
  refine Lr (ya (elts:=elts) (kk:=kk) (pos:=pos) (uu (A:=X.A.in1) (I.ok.hd hc) it a hia is.toArray) I hf st.1 ⟨st.2,show s.heap.IsTuple a is.toArray from pa⟩ hil hne hea (x:=x) (fun v hv=>?_)) (fun r s1 hr=>?_) fun _ _ z=>z
  ·obtain⟨u,hu,ru⟩:=ra.get hx
   have:is[i]?=some v:=by simpa using hv
   rw [hu] at this
   cases this
   exact ru
  ·obtain⟨u,e1,hgo⟩:=hr
   refine⟨u,e1,Lr hgo (fun _ s2 ⟨v,H',I',rv,⟨t,e2,ht,e3⟩,⟨g1,g2⟩,g3⟩=>⟨v,H',I',rv,⟨t,x,e2,ht,e3,fun xs' h1=>by rw [I.jY h1 ha];exact hx⟩,⟨g1,g2.1⟩,g3⟩) fun _ _ z=>z⟩
 done:=by
  intro X hP hw hK hc i pins s IA H E I hf st hg
  subst hP hw hK
  obtain⟨xs,ha,hl⟩:=hg
  obtain⟨is,ra,pa,_⟩:=I.tuple ha
  obtain⟨⟨old,ge⟩,gi⟩:=st
  have la:=ra.length
  have hsz:is.toArray.size=i:=by simp;omega
  refine wpAny_pyNext_enum_endD (uu (A:=X.A.in1) (I.ok.hd hc) it a hia is.toArray) ge ⟨by rw [hsz];exact gi,show s.heap.IsTuple a is.toArray from pa⟩ fun h' eb=>⟨rfl,I.iD (fp:=[e,it]) (t':=s.toks) (fun c o hc q=>?_) hf⟩
  simp only [IE,Jq,or_false,not_or] at hc
  exact eb c o hc.2 q
 self:=fun _ _ _ _ _ st h=>LZ st.1.choose_spec h
theorem zc {P:Program}{w:World}{K:IC}{elts:List Expr}{kk:Nat}{pos:Pos}(a e it:Addr)(hne:e≠it)(hea:e≠a)(hia:a≠it) :
  Turn P w K (.Tuple elts kk pos) (ph (aO K) a) [e,it] e (fun i h=>(∃old,IsEnum h e it (i:Nat) old)/\h.IsListIter it a i) where
 mem:=by simp
 obj:=fun i h st c hc=>by
  obtain⟨⟨old,ge⟩,⟨oj,ej,cj,dj⟩⟩:=st
  simp only [IE,Jq,or_false] at hc
  rcases hc with rfl | rfl
  ·exact⟨_,ge,fun v e=>by cases e⟩
  ·exact⟨oj,ej,fun v e=>by rw [dj] at e;cases e⟩
 keep:=fun i h g st kp=>by
  obtain⟨⟨old,ge⟩,⟨oj,ej,rj⟩⟩:=st
  exact⟨⟨old,kp e (by simp) _ ge⟩,⟨oj,kp it (by simp) _ ej,rj⟩⟩
 item:=by
  intro X hP hw hK hc i pins s IA H E I hf st hg
  subst hP hw hK
  obtain⟨xs,x,ha,hx⟩:=hg
  obtain⟨is,ra,pa,_⟩:=I.list ha
  have la:=ra.length
  have hil:i<is.toArray.size:=by have:=(IY.mp hx).1;simp;omega
  refine Lr (ya (elts:=elts) (kk:=kk) (pos:=pos) (Draws.list (A:=X.A.in1) (I.ok.hd hc) it a hia is.toArray) I hf st.1 ⟨st.2,pa.isList⟩ hil hne hea (x:=x) (fun v hv=>?_)) (fun r s1 hr=>?_) fun _ _ z=>z
  ·obtain⟨u,hu,ru⟩:=ra.get hx
   have:is[i]?=some v:=by simpa using hv
   rw [hu] at this
   cases this
   exact ru
  ·obtain⟨u,e1,hgo⟩:=hr
   refine⟨u,e1,Lr hgo (fun _ s2 ⟨v,H',I',rv,⟨t,e2,ht,e3⟩,⟨g1,g2⟩,g3⟩=>⟨v,H',I',rv,⟨t,x,e2,ht,e3,fun xs' h1=>by rw [I.ll h1 ha];exact hx⟩,⟨g1,g2.1⟩,g3⟩) fun _ _ z=>z⟩
 done:=by
  intro X hP hw hK hc i pins s IA H E I hf st hg
  subst hP hw hK
  obtain⟨xs,ha,hl⟩:=hg
  obtain⟨is,ra,pa,_⟩:=I.list ha
  obtain⟨⟨old,ge⟩,gi⟩:=st
  have la:=ra.length
  have hsz:is.toArray.size=i:=by simp;omega
  refine wpAny_pyNext_enum_endD (Draws.list (A:=X.A.in1) (I.ok.hd hc) it a hia is.toArray) ge ⟨by rw [hsz];exact gi,pa.isList⟩ fun h' eb=>⟨rfl,I.iD (fp:=[e,it]) (t':=s.toks) (fun c o hc q=>?_) hf⟩
  simp only [IE,Jq,or_false,not_or] at hc
  exact eb c o hc.2 q
 self:=fun _ _ _ _ _ st h=>LZ st.1.choose_spec h
theorem vX:bootBuiltins "enumerate" = some (.type "enumerate"):=by decide +kernel
def GI (K:IC)(ta:TA):TI:=fun IA H R=>ta IA H fun vs H1=>∃a,vs=[.ref a]/\((∃xs,aw K H1 a xs)/\R (ph (aw K) a) H1\/(∃xs,aO K H1 a xs)/\R (ph (aO K) a) H1)
theorem yc {a:Expr} {ta:TA} {p pos tp:Pos} {elts:List Expr} {kk:Nat} (hg:Gl X "enumerate") (hm:X.mg "enumerate" = none) (ha:PA X [a] ta) (hs:starEach [a] X.env=[(false,eval a X.env)]:=by rfl) :
  PI X (.Tuple elts kk tp) (.Call (.Name "enumerate" p) [a] [] pos) (GI X.K ta):=by
 intro pins s IA H R I h
 refine Call_ (iT I hg hm vX (PyProof.Rows.callWith_type1 (aX (ha pos pins s IA H _ I h) fun us s1 ⟨vs,H1,I1,r1,q1⟩=>?_) hs rfl))
 obtain⟨x,e,q⟩:=q1
 subst e
 cases r1 with
 | cons r rr =>
  cases rr
  cases r
  have le1:∀c∈[s1.heap.objs.size+1,s1.heap.objs.size],s1.heap.objs.size<=c:=fun c hc=>by
   simp only [IE,Jq,or_false] at hc
   rcases hc with rfl | rfl
   ·exact JI _
   ·exact IF _
  rcases q with ⟨⟨xs,hx⟩,q⟩ | ⟨⟨xs,hx⟩,q⟩
  ·obtain⟨is,rx,px,_⟩:=I1.tuple hx
   have lx:x<s1.heap.objs.size:=px.lt
   refine Eo (show s1.heap.IsTuple x is.toArray from px) fun g ge gi up=>?_
   refine LZ ge ?_
   have I2:Inv X pins IA H1 { s1 with heap:=g }:=I1.kept (t':=s1.toks) up
   exact⟨_,[s1.heap.objs.size+1,s1.heap.objs.size],_,ph (aw X.K) x,H1,rfl,I2,zb x _ _ (JB (JD _)) (JB (Jt lx)) (IL lx),⟨⟨_,ge⟩,gi⟩,fun c hc=>I1.lr (le1 c hc) (I1.aN.fresh (le1 c hc)),q⟩
  ·obtain⟨is,rx,px,_⟩:=I1.list hx
   have lx:x<s1.heap.objs.size:=by obtain⟨o,eo,_⟩:=px.isList;exact IG eo
   refine call_enumerate_list px.isList fun g ge gi _ up=>?_
   refine LZ ge ?_
   have I2:Inv X pins IA H1 { s1 with heap:=g }:=I1.kept (t':=s1.toks) up
   exact⟨_,[s1.heap.objs.size+1,s1.heap.objs.size],_,ph (aO X.K) x,H1,rfl,I2,zc x _ _ (JB (JD _)) (JB (Jt lx)) (IL lx),⟨⟨_,ge⟩,gi⟩,fun c hc=>I1.lr (le1 c hc) (I1.aN.fresh (le1 c hc)),q⟩
end
theorem CA {Sq:Hp->Addr->List V->Prop}{a:Addr}{xs:List V}{g:TG}{tb:TS}{D:Ends}{IA : St}{H:Hp}(Pv:Nat->St->Hp->Prop)(h0:Pv 0 IA H)(hl:∀i IA H,i<=xs.length->Pv i IA H->Sq H a xs)
  (hs:∀i x IA H t,xs[i]?=some x->H t=none->Pv i IA H->g (.ref t) IA (upd H t (.tup [.int (i:Nat),x])) fun σ2 H2=>tb { D with nx:=Pv (i+1),ct:=Pv (i+1),bk:=D.nx } σ2 H2) (hd:∀IA H,Pv xs.length IA H->D.nx IA H) :
  ∃W:Nat->Nat->St->Hp->Prop,(∃m,W 0 m IA H)/\∀i m IA H,W i m IA H ->
   ((ph Sq a).stop i H/\D.nx IA H)\/((ph Sq a).go i H/\∃N:St->Hp->Prop,(∀σ' H',N σ' H'->∃m',m' < m/\W (i+1) m' σ' H')/\∀x H',(ph Sq a).tL i H x H'->g x IA H' fun σ2 H2=>tb { D with nx:=N,ct:=N,bk:=D.nx } σ2 H2):=by
 refine⟨fun i m IA H=>m=xs.length-i/\i<=xs.length/\Pv i IA H,⟨xs.length,by simp,Jc _,h0⟩,?_⟩
 rintro i m IA H ⟨rfl,hi,p⟩
 have q:=hl i IA H hi p
 by_cases hlt:i<xs.length
 ·refine .inr ⟨⟨xs,xs[i],q,by simp [hlt]⟩,Pv (i+1),fun σ' H' p'=>⟨xs.length-(i+1),by omega,rfl,hlt,p'⟩,fun v H' y=>?_⟩
  obtain⟨t,x,rfl,ht,rfl,h⟩:=y
  exact hs i x IA H t (h xs q) ht p
 ·have e:i=xs.length:=by omega
  subst e
  exact .inl ⟨⟨xs,q,rfl⟩,hd IA H p⟩
theorem Ep {Sq:Hp->Addr->List V->Prop}{a acc:Addr}{xs:List V}{n:Nat}{js:List Nat}{g:TG}{ct:TT}{te:TE}{IA : St}{H1:Hp}{Q:VK}(Pv:Nat->List V->St->Hp->Prop)(h0:Pv 0 [] (mZ n js IA) (upd H1 acc (.lst [])))
  (hl:∀i zs IB H,i<=xs.length->Pv i zs IB H->Sq H a xs/\H acc=some (.lst zs)/\zs.length<sizeLine)
  (hs:∀i x zs IB H t,xs[i]?=some x->H t=none->Pv i zs IB H->g (.ref t) IB (upd H t (.tup [.int (i:Nat),x])) fun τ1 H4=>ct τ1 H4 fun b H5=>if b=true then te τ1 H5 fun v H6=>H6 acc=some (.lst zs)/\Pv (i+1) (zs++[v]) τ1 (upd H6 acc (.lst (zs++[v]))) else Pv (i+1) zs τ1 H5)
  (hd:∀zs IB H,Pv xs.length zs IB H->Q (.ref acc) H) :
  vk (ph Sq a) n js g ct te acc IA H1 Q:=by
 refine⟨fun i m zs IB H=>m=xs.length-i/\i<=xs.length/\Pv i zs IB H,⟨xs.length,by simp,Jc _,h0⟩,?_⟩
 rintro i m zs IB H ⟨rfl,hi,p⟩
 obtain⟨qa,q2,q3⟩:=hl i zs IB H hi p
 refine⟨q2,q3,?_⟩
 by_cases hlt:i<xs.length
 ·refine .inr ⟨⟨xs,xs[i],qa,by simp [hlt]⟩,Pv (i+1),fun zs' τ' H' p'=>⟨xs.length-(i+1),by omega,rfl,hlt,p'⟩,fun v H' y=>?_⟩
  obtain⟨t,x,rfl,ht,rfl,h⟩:=y
  exact hs i x zs IB H t (h xs qa) ht p
 ·have e:i=xs.length:=by omega
  subst e
  exact .inl ⟨⟨xs,qa,rfl⟩,hd zs IB H p⟩
section
variable {X:Cx}{pos:Pos}
end
section
variable {X:Cx}{pos:Pos}
end
section
variable {X:Cx}{pos:Pos}
end
section
variable {X:Cx}{K:IC}
end
section
variable {X:Cx}
end
end L2
namespace LS
open PySem PySem.Spec PyProof.Rows L2
section
variable {prog:Program}{w:World}{A:Around}{E:Value->Shared->Prop}{s:Shared}{I l:Addr}{its:Array Value}
end
section
variable {prog:Program}{w:World}{A:Around}{E:Value->Shared->Prop}{s:Shared}{I l:Addr}{its:Array Value}
end
end LS
namespace L2
open PySem PySem.Spec PyProof.Rows
section
variable {X:Cx}
end
end L2
namespace LS
open PySem PySem.Spec PyProof.Rows L2
section
variable {prog:Program}{w:World}{K:Type}[DecidableEq K]{knd:KeyKind prog w K}
variable {A:Around}{E:Value->Shared->Prop}{s:Shared}{a:Addr}{ks:List K}
end
section
variable {prog:Program}{w:World}{A:Around}{E:Value->Shared->Prop}{s:Shared}
end
end LS
namespace L2
open PySem PySem.Spec PyProof.Rows LS
section
variable {X:Cx}
end
end L2
namespace HT
open PySem PySem.Spec PyProof.Rows
section
variable {prog:Program}{w:World}{A:Around}{E:Value->Shared->Prop}{s:Shared}
end
end HT
namespace L2
open PySem PySem.Spec PyProof.Rows LS
section
variable {X:Cx}
end
section
variable {prog:Program}{w:World}{A:Around}{E:Value->Shared->Prop}{s:Shared}
theorem vY {l:Addr}{vs:List Value}{ns:List Str}{Q:Value->Shared->Prop}(hl:s.heap.IsList l vs.toArray)(hI:StrsAre vs ns)(h64:vs.length<64)
  (q:∀(h':Heap) (D:Addr) (out:Array Value) (ns':List Str) (e:Nat),(∀b o,s.heap.get? b=some o->h'.get? b=some o)->s.heap.objs.size<=D->h'.get? D=some { cls:=.type "list",data:=.seq out e } ->
   StrsAre out.toList ns'->ns'.Perm ns->sortedS ns' = true->Q (.ref D) { s with heap:=h' }):wpAny (model prog w) A (call (.builtin "sorted") [.ref l]) Q E s:=by
 refine sorted_strs hl hI h64 fun out ns' a1 a2 a3=>?_
 unfold sortedAll
 generalize hg:((s.heap.push (seqObj "list" #[] 0)).update s.heap.objs.size (Obj.mapSeq (· ++ vs.toArray)))=g
 have hz:g.objs.size=s.heap.objs.size+1:=by rw [<-hg,Heap.size_update,size_push']
 have kp:∀b o,s.heap.get? b=some o->g.get? b=some o:=fun b o e=>by
  rw [<-hg]
  exact (JF _ _ (JB (IG e))).trans (II _ e)
 have hoL:(g.push (seqObj "list" vs.toArray 0)).get? (s.heap.objs.size+1)=some (seqObj "list" vs.toArray 0):=by rw [<-hz];exact IK _ rfl
 obtain⟨e,he⟩:=sortedHeap_at (out:=out) hoL
 refine q _ _ out ns' e (fun b o ho=>?_) (JI _) he a1 a2 a3
 have h1:=kp b o ho
 have hlt:=IG ho
 rw [sortedHeap_old (IL (Jt hlt)) (by rw [size_push',hz];exact Jt (Jt hlt))]
 exact II _ h1
end
section
variable {X:Cx}
theorem uK:dU X (.builtin "sorted") (fun vs H Q=>∃(p:Addr) (ns:List Str),vs=[.ref p]/\aO X.K H p (ns.map V.str)/\ns.length<64 /\
  ∀(l:Addr) (ns':List Str),ns'.Perm ns->sortedS ns' = true->H l=none->Q (.ref l) (upd H l (.lst (ns'.map V.str)))):=by
 intro pins s IA H xs us Q I r h
 obtain⟨p,ns,rfl,hp,h64,q⟩:=h
 obtain⟨u,rfl,ru⟩:=vals1 r
 cases (show u=Value.ref p from ru)
 obtain⟨its,hv,pl,_⟩:=I.list hp
 have hi:=qG hv
 refine vY pl.isList hi (by have:=hv.length;rw [ID] at this;omega) fun h' D out ns' e hkeep hD he hS hp' hs=>?_
 have hv':Vals (ns'.map V.str) out.toList:=oC hS
 refine⟨.ref D,_,I.laid (t':=s.toks) (o:=.lst (ns'.map V.str)) hkeep hD (show bN X.prog X.w _ h' _ (.lst (ns'.map V.str)) from ⟨?_,out.toList,e,hv',by simpa using he⟩),rfl,q D ns' hp' hs (I.aN.fresh hD)⟩
 rw [ID,hp'.length_eq]
 exact IQ (Jo h64) (by decide)
end
section
variable {X:Cx}
end
section
variable {ps:List Piece}{a b:Nat}{p q:Piece}
end
section
variable {X:Cx}{P:Program}{w:World}
end
theorem AN (ns:List Nat):(PyData.tuple (ns.map lR)).canLay0=true:=dh _ fun d hd=>by obtain⟨x,_,rfl⟩:=IS.mp hd;rfl
section
variable {P:Program}{w:World}{H H':Hp}{d:Addr}{n:Nat}{us:List ((Nat×Nat)×Addr)}
end
theorem take1 {α : Type}{ds:List α}{i:Nat}{d:α}(h:ds[i]?=some d):ds.take (i+1)=ds.take i++[d]:=by rw [Ju,h];rfl
section
variable (P:Program)(w:World)
end
theorem vZ {X:Cx}{K:IC}(h:X.K=K):xt X (Fd K):=by subst h;exact bD
section
variable {X:Cx}
end
section
variable {X:Cx}
end
section
variable {ps:List Piece}
end
section
variable {X:Cx}
end
theorem aP.setAt {H:Hp}{v:V}{d:PyData}(r:aJ H v d):∀{xs:List V} {ds:List PyData} (j:Nat),aP H xs ds->aP H (xs.set j v) (ds.set j d)
 | _,_,_,.nil=>.nil
 | _,_,0,.cons _ rs=>.cons r rs
 | _,_,j+1,.cons q rs=>.cons q (aP.setAt r j rs)
section
variable {prog:Program}{w:World}{A:Around}{E:Value->Shared->Prop}{s:Shared}
end
section
variable {X:Cx}
end
abbrev G5:=(Nat×Nat)×List Str
section
variable {ps:List Piece}{ms:List G5}{at_ f:Nat}{x:G5}{p q:Piece}
end
section
variable (P:Program)(w:World)
end
section
variable {X:Cx}
end
section
variable {n odd a b i j:Nat}
end
open AutoSeq1 (wpAny_loadPart')
section
variable {prog:Program}{w:World}{A:Around}{E:Value->Shared->Prop}{s:Shared}
end
section
variable {prog:Program}{w:World}{A:Around}{E:Value->Shared->Prop}{s:Shared}
end
section
variable {X:Cx}
end
section
variable {ps qs:List Piece}{src:List Nat}
end
theorem CB (xs:List Nat):(PyData.tuple (xs.map lR)).depth<=60:=by
 have h:=jx (m:=0) (xs.map lR) fun d hd=>by obtain⟨s,_,rfl⟩:=IS.mp hd;exact IF 0
 show PyData.depthAll (xs.map lR)+1<=60
 omega
abbrev Pp:=Int×(Str->Sx)
def AO (H:Hp)(v:V)(c:Pp):Prop:=∃q u,v=.ref q/\H q=some (.tup [.int c.1,u])/\FV H u c.2
abbrev ke (H:Hp)(vs:List V)(cs:List Pp):Prop:=Paired (AO H) vs cs
theorem AO.av {H H':Hp}{v:V}{c:Pp}(h:AO H v c)(k:∀p xs,H p=some (.tup xs)->H' p=some (.tup xs)):AO H' v c:=by
 obtain⟨q,u,e,h1,h2⟩:=h
 exact⟨q,u,e,k _ _ h1,h2.av k⟩
theorem ke.av {H H':Hp}(k:∀p xs,H p=some (.tup xs)->H' p=some (.tup xs)):∀{vs:List V} {cs:List Pp},ke H vs cs->ke H' vs cs
 | _,_,.nil=>.nil
 | _,_,.cons h t=>.cons (h.av k) (ke.av k t)
theorem ke.same {H H':Hp}{vs:List V}{cs:List Pp}(h:ke H vs cs)(s:af H H'):ke H' vs cs:=h.av fun p xs e=>s _ _ e
def Mt (paper:List Pp)(at_ w:Nat)(U:Str->Sx):Prop:=∃c,paper[at_]?=some c/\c.1=(w:Int)/\∀x,jP (U x) (c.2 x)=true
def Dk (paper:List Pp)(T:Str->Sx):End->End->Prop
 | .stop,.stop=>True
 | .go p,.go q=>Mt paper q p T
 | .cC b x n p q,.go r=>∃ld,cE T (.cC b x n p q)=[ld]/\Mt paper r ld.1 ld.2
 | .cC b x n p q,.cC b' x' n' p' q'=>(b=b'/\x=x'/\n=n')/\(∀U,(dQ T b x n true).map (dY T x)=some U->Mt paper p' p U)/\∀U,(dQ T b x n false).map (dY T x)=some U->Mt paper q' q U
 | _,_=>False
structure GJ (ps qs:List Piece) (paper:List Pp):Prop where
 len:paper.length=qs.length
 Iz:∀c∈paper,0<=c.1/\c.1<ps.length
 first:∃c,paper[0]?=some c/\c.1=0/\Sound c.2 (fun _=>0)
 all:∀(k:Nat) (c:Pp) (p q:Piece),paper[k]?=some c->ps[c.1.toNat]?=some p->qs[k]?=some q->p.1=q.1/\Dk paper (cK c.2 p.1) p.2 q.2
inductive yd  (vs:List V) (H:Hp) (Q:VK) (_:XK):Prop
 | mk (ov lv:V) (c:Pp) (k:Nat) (U:Str->Sx) (_:vs=[ov,lv]) (_:AO H ov c) (_:PV H lv (k,U)) (_:lU c.2 63) (_:∀b H',(b=true↔(c.1=(k:Int)/\∀x,jP (U x) (c.2 x)=true))->af H H'->Q (.bl b) H')
def ip (c:Cp):Pp:=((c.1:Int),c.2)
theorem v9 {cs:List Cp}{k:Nat}{c:Cp}(h:cs[k]?=some c):(cs.map ip)[k]?=some (ip c):=by rw [IZ,h];rfl
theorem uv {xs:List Str}{ps:List Piece}{m most:Nat}(bW:bY xs m ps)(hn0:0<ps.length)(hm:1<=most):GJ ps (cy ps most).2 ((cy ps most).1.map ip):=by
 obtain⟨I,hl,more,e⟩:=jR bW hn0 hm
 refine⟨by rw [ID,hl],fun c hc=>?_,⟨ip (iy ps),v9 (by rw [e];rfl),?_,?_⟩,fun k c p q hk hp hq=>?_⟩
 ·obtain⟨c',hc',rfl⟩:=IS.mp hc
  have:=(I.ok c' hc').1
  show 0<=(c'.1:Int)/\(c'.1:Int)<_
  omega
 ·unfold iy
  split <;> rfl
 ·unfold iy
  split
  ·exact za
  ·intro x
   show jm 0 (startT ps x).1 (startT ps x).2=true
   unfold startT
   split <;> rfl
 ·obtain⟨c',pc,ns,h1,h2,rfl,h4⟩:=I.rel k q hq
  rw [v9 h1] at hk
  cases hk
  have hp:ps[c'.1]?=some p:=hp
  rw [h2] at hp
  have hp:=IU.inj hp
  subst hp
  refine⟨rfl,?_⟩
  show Dk ((cy ps most).1.map ip) (cK c'.2 pc.1) pc.2 (gQ pc.2 ns)
  generalize (cy ps most).1=cs at h4
  have go:∀{l:Cp} {a:Nat},(∃c':Cp,cs[a]?=some c'/\c'.1=l.1/\((¬cX ps l.1/\c'.2=l.2)\/(c'.2=T0/\(cX ps l.1\/most<=cs.length))))->Mt (cs.map ip) a l.1 l.2:=fun ⟨c',g1,g2,g3⟩=>by
   refine⟨ip c',v9 g1,by show (c'.1:Int)=_;rw [g2],fun x=>?_⟩
   show jP _ (c'.2 x)=true
   rcases g3 with ⟨_,e⟩ | ⟨e,_⟩
   ·rw [e];exact Ct _
   ·rw [e];exact xQ _
  obtain⟨ds,e⟩:=pc
  dsimp only at h4 ⊢
  generalize cK c'.2 ds=T at h4
  unfold Goes at h4
  cases e with
  | stop =>
   cases h4
   exact True.intro
  | go q =>
   have hl1:cE T (.go q)=[(q,T)]:=rfl
   rw [hl1] at h4
   cases h4 with
   | cons r t =>
    cases t
    exact go r
  | cC b x n q r =>
   have hld:=Cz (T:=T) (b:=b) (x:=x) (n:=n) (q:=q) (r:=r)
   rw [hld] at h4
   cases h1':dQ T b x n true with
   | none =>
    cases h2':dQ T b x n false with
    | none =>
     rw [h1',h2'] at h4
     cases h4
     refine⟨⟨rfl,rfl,rfl⟩,fun U hU=>?_,fun U hU=>?_⟩
     ·rw [h1'] at hU;cases hU
     ·rw [h2'] at hU;cases hU
    | some s2 =>
     rw [h1',h2'] at h4 hld
     cases h4 with
     | cons r1 t =>
      cases t
      exact⟨_,hld,go r1⟩
   | some s1 =>
    cases h2':dQ T b x n false with
    | none =>
     rw [h1',h2'] at h4 hld
     cases h4 with
     | cons r1 t =>
      cases t
      exact⟨_,hld,go r1⟩
    | some s2 =>
     rw [h1',h2'] at h4
     cases h4 with
     | cons r1 t =>
      cases t with
      | cons r2 t =>
       cases t
       refine⟨⟨rfl,rfl,rfl⟩,fun U hU=>?_,fun U hU=>?_⟩
       ·rw [h1'] at hU;cases hU;exact go r1
       ·rw [h2'] at hU;cases hU;exact go r2
section
variable {P:Program}{w:World}{K:IC}{mg:Str->Option Value}{base h:Heap}{x q m:Str}{st:Stmt}{f C:Addr}{fd:FuncData}{k:Nat}{ps:List Str}{sp:Sp}
structure bF (K:IC) (x:Str) (st:Stmt) (f:Addr) (fd:FuncData):Prop where
 a:IW K mainGlobals x=some (some (.ref f))
 F:bS K x x st f fd
structure fz (K:IC) (C:Addr) (x q:Str) (st:Stmt) (f:Addr) (fd:FuncData):Prop where
 a:Jf K (.ref C) x=some (some (.ref f))
 i:Km K (.ref f)=true
 F:bS K x q st f fd
section
variable {oc:Value}{od an:Option Addr}{osl:Array (Option Value)}{kV doc pm cdv ct:Value}
theorem def_mk (a:IW K mainGlobals x=some (some (.ref f)))(l:K.lookup f=some ⟨oc,od,.func (Jv x x (dI st) (cZ st) (au st) .none kV doc pm an cdv ct),osl⟩)
  (c:JZ K cdv x=true) (k:JC K (.ref f)=true):bF K x st f (Jv x x (dI st) (cZ st) (au st) .none kV doc pm an cdv ct):=⟨a,zT l c k⟩
theorem met_mk (a:Jf K (.ref C) x=some (some (.ref f)))(i:Km K (.ref f)=true)(l:K.lookup f=some ⟨oc,od,.func (Jv x q (dI st) (cZ st) (au st) .none kV doc pm an cdv ct),osl⟩)
  (c:JZ K cdv q=true) (k:JC K (.ref f)=true):fz K C x q st f (Jv x q (dI st) (cZ st) (au st) .none kV doc pm an cdv ct):=⟨a,i,zT l c k⟩
end
def jr (x q:Str)(st:Stmt)(ps:List Str):Prop:=∀(kV doc pm:Value) (an:Option Addr) (cdv ct:Value) (us:List Value),us.length=ps.length->bindArgs (Jv x q (dI st) (cZ st) (au st) .none kV doc pm an cdv ct) ⟨us,[]⟩=pure (ps.zip us)
theorem bw (P:Program)(w:World)(base:Heap)(X:K.In h)(G:h.Ns mainGlobals mg)(d:bF K x st f fd)(o:aW P w K mg base bQ k f fd ps sp)(b:jr x x st ps):Own P w K mg base x k ps sp:=⟨⟨_,_,o,Jx X G d.a,d.F.kp,d.F.binds b⟩⟩
theorem hG (P:Program)(w:World)(base:Heap)(mg:Str->Option Value)(T:jG K C)(d:fz K C x q st f fd)(o:aW P w K mg base bQ k f fd ps sp)(b:jr x q st ps):iF P w K mg base C x k ps sp:=⟨T,⟨_,_,o,⟨d.a,d.i,d.F.kp⟩,d.F.binds b⟩⟩
theorem Er (P:Program) (w:World) (base:Heap) (X:K.In h) (G:h.Ns mainGlobals mg) (aC:IW K mainGlobals m=some (some (.ref C))) (mk:Kb K C=true) (kc:JC K (.ref C)=true) (d:fz K C "__init__" q st f fd) (o:aW P w K mg base bQ k f fd ps sp) (b:jr "__init__" q st ps):vz P w K mg base C m k ps sp:=⟨⟨_,_,o,⟨mk,d.a,d.i,kc⟩,Jx X G aC,d.F.binds b⟩⟩
section
variable {p1 p2 p3 p4 p5 p6:Str}
theorem jg (h:∀(kV doc pm:Value) (an:Option Addr) (cdv ct u1:Value),bindArgs (Jv x q (dI st) (cZ st) (au st) .none kV doc pm an cdv ct) ⟨[u1],[]⟩=pure [(p1,u1)]):jr x q st [p1]:=fun _ _ _ _ _ _ us hl=>match us,hl with | [_],_=>h ..
theorem fB (h:∀(kV doc pm:Value) (an:Option Addr) (cdv ct u1 u2:Value),bindArgs (Jv x q (dI st) (cZ st) (au st) .none kV doc pm an cdv ct) ⟨[u1,u2],[]⟩=pure [(p1,u1),(p2,u2)]):jr x q st [p1,p2]:=fun _ _ _ _ _ _ us hl=>match us,hl with | [_,_],_=>h ..
theorem rJ (h:∀(kV doc pm:Value) (an:Option Addr) (cdv ct u1 u2 u3:Value),bindArgs (Jv x q (dI st) (cZ st) (au st) .none kV doc pm an cdv ct) ⟨[u1,u2,u3],[]⟩=pure [(p1,u1),(p2,u2),(p3,u3)]):jr x q st [p1,p2,p3]:=fun _ _ _ _ _ _ us hl=>match us,hl with | [_,_,_],_=>h ..
theorem G6 (h:∀(kV doc pm:Value) (an:Option Addr) (cdv ct u1 u2 u3 u4:Value),bindArgs (Jv x q (dI st) (cZ st) (au st) .none kV doc pm an cdv ct) ⟨[u1,u2,u3,u4],[]⟩=pure [(p1,u1),(p2,u2),(p3,u3),(p4,u4)]):jr x q st [p1,p2,p3,p4]:=fun _ _ _ _ _ _ us hl=>match us,hl with | [_,_,_,_],_=>h ..
end
end
theorem cw {N ps:List Str}{sc:Scope}(h1:sc.kind=.function:=by rfl)(h2:sc.isCoroutine=false:=by rfl)(h3:sc.isGenerator=false:=by rfl)(h4:N.Nodup:=by decide +kernel)(h5:N.take ps.length=ps:=by rfl)(h6:∀x∈ps,sc.names.lookup x=some .local\/sc.names.lookup x=some .cell:=by decide +kernel)(h7:∀y∈sc.names,y.2≠.free:=by decide +kernel):aM N ps sc:=⟨h1,h2,h3,h4,h5,h6,h7⟩
theorem ay {X:Cx}{x:Str}{k m:Nat}{ps:List Str}{sp:Sp}{e:Expr}{es:List Expr}{t:TA}{p pos:Pos}(o:Own X.prog X.w X.K X.mg X.base x k ps sp)(hr:cG m X.A)(ha:PA X (e::es) t)(hk:k<=m:=by decide)(hg:Gl X x:=by rfl)
  (hdb:(x == ("__debug__" : Str))=false:=by decide) (he:starEach (e::es) X.env=(false,eval e X.env)::starEach es X.env:=by rfl) (hpl:(backTo pos (starEach es X.env)).any (·.1)=false:=by rfl):PE X (.Call (.Name x p) (e::es) [] pos) (uU sp [] E0 t):=Fl o (hr.mono hk) hg ha hdb he hpl
theorem aY {X:Cx}{i:Nat}{x:Str}{e:Expr}{te:TE}{pos pos':Pos}(hN:X.N.Nodup)(he:PE X e te)(hi:X.N[i]?=some x:=by rfl)(hx:Loc X.env.scope x:=by first | exact Or.inl rfl | exact Jg rfl)(hs:swapsWith e (some (.Name x pos')) pos.line X.env=pure false:=by rfl)(hf:X.fn x=true\/X.env.scope.names.lookup x=some .local:=by first | exact .inl rfl | exact .inr rfl | assumption) :
  PS X (.Assign [.Name x pos'] e pos) (yr te (oo i)):=EU hN hi hx he hs hf
theorem aL {X:Cx}{i:Nat}{x:Str}{pos:Pos}(hN:X.N.Nodup)(hi:X.N[i]?=some x:=by rfl)(hx:Loc X.env.scope x:=by first | exact Or.inl rfl | exact Jg rfl)(hf:X.fn x=true\/X.env.scope.names.lookup x=some .local:=by first | exact .inl rfl | exact .inr rfl | assumption):PG X (.Name x pos) (oo i):=Dz hN hi hx hf
theorem aI {X:Cx}{a b:Expr}{ta tb:TE}{pos:Pos}{r:R2}(hr:xt X r)(ha:PE X a ta)(hb:PE X b tb)(hs:xr b:=by exact fun _ _=>rfl):PE X (.Subscript a b pos) (zE r ta tb):=Gs hr ha hb hs
theorem aB {X:Cx}{e1:Expr}{t1:TE}(h1:PE X e1 t1)(s1:starEach [e1] X.env=(false,eval e1 X.env)::starEach [] X.env:=by rfl):PA X [e1] (hZ t1 mU):=(bR h1 dz s1)
theorem aG {X:Cx}{e1 e2:Expr}{t1 t2:TE}(h1:PE X e1 t1)(h2:PE X e2 t2)(s1:starEach [e1,e2] X.env=(false,eval e1 X.env)::starEach [e2] X.env:=by rfl)(s2:starEach [e2] X.env=(false,eval e2 X.env)::starEach [] X.env:=by rfl):PA X [e1,e2] (hZ t1 (hZ t2 mU)):=(bR h1 (bR h2 dz s2) s1)
theorem fq {X:Cx}{e1 e2 e3:Expr}{t1 t2 t3:TE}(h1:PE X e1 t1)(h2:PE X e2 t2)(h3:PE X e3 t3)(s1:starEach [e1,e2,e3] X.env=(false,eval e1 X.env)::starEach [e2,e3] X.env:=by rfl)(s2:starEach [e2,e3] X.env=(false,eval e2 X.env)::starEach [e3] X.env:=by rfl)(s3:starEach [e3] X.env=(false,eval e3 X.env)::starEach [] X.env:=by rfl):PA X [e1,e2,e3] (hZ t1 (hZ t2 (hZ t3 mU))):=(bR h1 (bR h2 (bR h3 dz s3) s2) s1)
theorem wa {X:Cx}{e1 e2 e3 e4:Expr}{t1 t2 t3 t4:TE}(h1:PE X e1 t1)(h2:PE X e2 t2)(h3:PE X e3 t3)(h4:PE X e4 t4)(s1:starEach [e1,e2,e3,e4] X.env=(false,eval e1 X.env)::starEach [e2,e3,e4] X.env:=by rfl)(s2:starEach [e2,e3,e4] X.env=(false,eval e2 X.env)::starEach [e3,e4] X.env:=by rfl)(s3:starEach [e3,e4] X.env=(false,eval e3 X.env)::starEach [e4] X.env:=by rfl)(s4:starEach [e4] X.env=(false,eval e4 X.env)::starEach [] X.env:=by rfl):PA X [e1,e2,e3,e4] (hZ t1 (hZ t2 (hZ t3 (hZ t4 mU)))):=(bR h1 (bR h2 (bR h3 (bR h4 dz s4) s3) s2) s1)
theorem FR (p:Nat):(eX (.go p)).canLay0=true:=dh _ fun y hy=>by
 rcases IE.mp hy with rfl | hy
 ·decide +kernel
 ·rw [IH.mp hy];rfl
theorem Es {b:Bool}{x:Str}{n:Int}{p q:Nat}(h:(PyData.str x).canLay0=true):(eX (.cC b x n p q)).canLay0=true:=dh _ fun y hy=>by
 rcases IE.mp hy with rfl | hy
 ·cases b <;> decide +kernel
 rcases IE.mp hy with rfl | hy
 ·exact h
 rcases IE.mp hy with rfl | hy
 ·rfl
 rcases IE.mp hy with rfl | hy
 ·rfl
 ·rw [IH.mp hy];rfl
theorem wb {b:Bool}{x:Str}{n:Int}{p q:Nat}(h:(eX (.cC b x n p q)).canLay0=true):(PyData.str x).canLay0=true:=by
 have h:((PyData.str (wT b)).canLay0&&((PyData.str x).canLay0&&_))=true:=h
 rw [Jp,Jp] at h
 exact h.2.1
theorem aP.Dl {H:Hp}:∀(n:Nat) {xs:List V} {ds:List PyData},aP H xs ds->aP H (xs.drop n) (ds.drop n)
 | 0,_,_,h=>h
 | n+1,_,_,.nil=>.nil
 | n+1,_,_,.cons _ t=>aP.Dl n t
theorem aP.Dm {H:Hp}:∀(n:Nat) {xs:List V} {ds:List PyData},aP H xs ds->aP H (xs.take n) (ds.take n)
 | 0,_,_,h=>.nil
 | n+1,_,_,.nil=>.nil
 | n+1,_,_,.cons h t=>.cons h (aP.Dm n t)
theorem aP.FT {H:Hp}{ys:List V}{es:List PyData}(g:aP H ys es):∀{xs:List V} {ds:List PyData},aP H xs ds->aP H (xs++ys) (ds++es)
 | _,_,.nil=>g
 | _,_,.cons h t=>.cons h (aP.FT g t)
theorem Et {qs:List Piece}{k:Nat}{p:Piece}(h:i8 qs)(hp:(PyData.tuple (p.1.map cu)).canLay0=true/\(eX p.2).canLay0=true):i8 (qs.set k p):=fun q hq=>by
 rcases K8 hq with hq | rfl
 ·exact h q hq
 ·exact hp
theorem AQ {H:Hp}:∀{vs:List V} {ds:List PyData} {cs:List Cp},aP H vs ds->Paired (fun d c=>CD c d) ds cs->ke H vs (cs.map ip)
 | _,_,_,.nil,.nil=>.nil
 | _,_,_,.cons h t,.cons g t'=>by
  refine .cons ?_ (AQ t t')
  obtain⟨fd,hf,rfl⟩:=g
  obtain⟨pa,pvs,rfl,hpm,rpv⟩:=aJ.bH h
  obtain⟨y1,t1,rfl,q1,rpv⟩:=rpv.cons_inv
  obtain⟨y2,t2,rfl,q2,rpv⟩:=rpv.cons_inv
  have z:=rpv.nil_inv
  subst z
  rw [q1.int_inv] at hpm
  exact⟨pa,y2,rfl,hpm,hf.fv q2⟩
abbrev uw:=FO×List Bool
open Classical in
noncomputable def GK (S:uw) (ld:Nat×(Str->Sx)):uw:=if Met S.1 ld then S else (S.1.set ld.1 (some (HN (S.1[ld.1]?.getD none) ld.2)),S.2.set ld.1 true)
noncomputable def FU (S:uw) (ls:List (Nat×(Str->Sx))):uw:=ls.foldl GK S
def HP (ps:List Piece)(tab:FO)(k:Nat):List (Nat×(Str->Sx)):=match ps[k]?,tab[k]? with
 | some p,some (some T)=>cE (cK T p.1) p.2
 | _,_=>[]
noncomputable def GL (ps:List Piece) (S:uw):uw:=FU (S.1,S.2.set (S.2.idxOf true) false) (HP ps S.1 (S.2.idxOf true))
open Classical in
noncomputable def nJ (ps:List Piece):Nat->uw->uw
 | 0,S=>S
 | n+1,S=>if true∈(nJ ps n S).2 then GL ps (nJ ps n S) else nJ ps n S
section
variable {X:Cx}{pins:List (Addr×Obj)}{IA : List (Option V)}{H H':Hp}{s:Shared}{h':Heap}
def sT (K:IC)(a b:Addr):It :=
 ⟨fun i H=>∃xs ys x y,aO K H a xs/\aO K H b ys/\xs[i]?=some x/\ys[i]?=some y,
  fun i H v H'=>∃t x y,v=.ref t/\H t=none/\H' = upd H t (.tup [x,y])/\∀xs ys,aO K H a xs->aO K H b ys->xs[i]?=some x/\ys[i]?=some y,
  fun i H=>∃xs ys,aO K H a xs/\aO K H b ys/\(xs.length<=i\/ys.length<=i)⟩
theorem AR {P:Program}{w:World}{K:IC}{elts:List Expr}{kk:Nat}{pos:Pos}(a b z p q j k:Addr)(D:ZipApart z p q j k a b) :
  Turn P w K (.Tuple elts kk pos) (sT K a b) [z,p,q,j,k] z (fun i h=>IsZip h z p q .none/\IsPair h p (.ref j) (.ref k)/\(∃u v,IsPair h q u v)/\h.IsListIter j a i/\h.IsListIter k b i) where
 mem:=by simp
 obj:=fun i h st c hc=>by
  obtain⟨gz,gp,⟨u,v,gq⟩,⟨oj,ej,cj,dj⟩,⟨ok,ek,ck,dk⟩⟩:=st
  simp only [IE,Jq,or_false] at hc
  rcases hc with rfl | rfl | rfl | rfl | rfl
  ·exact⟨_,gz,fun v e=>by cases e⟩
  ·exact⟨_,gp,fun v e=>by cases e⟩
  ·exact⟨_,gq,fun v e=>by cases e⟩
  ·exact⟨oj,ej,fun v e=>by rw [dj] at e;cases e⟩
  ·exact⟨ok,ek,fun v e=>by rw [dk] at e;cases e⟩
 keep:=fun i h g st kp=>by
  obtain⟨gz,gp,⟨u,v,gq⟩,⟨oj,ej,rj⟩,⟨ok,ek,rk⟩⟩:=st
  exact⟨kp z (by simp) _ gz,kp p (by simp) _ gp,⟨u,v,kp q (by simp) _ gq⟩,⟨oj,kp j (by simp) _ ej,rj⟩,⟨ok,kp k (by simp) _ ek,rk⟩⟩
 item:=by
  intro X hP hw hK hc i pins s IA H E I hf st hg
  subst hP hw hK
  obtain⟨gz,gp,⟨u,v,gq⟩,gj,gk⟩:=st
  obtain⟨xs,ys,x,y,ha,hb,hx,hy⟩:=hg
  obtain⟨is,ra,pa,_⟩:=I.list ha
  obtain⟨js,rb,pb,_⟩:=I.list hb
  obtain⟨xv,hxv,rx⟩:=ra.get hx
  obtain⟨yv,hyv,ry⟩:=rb.get hy
  have sz:∀c∈[z,p,q,j,k],c≠s.heap.objs.size:=fun c hc e=>by
   subst e
   simp only [IE,Jq,or_false] at hc
   rcases hc with e | e | e | e | e
   ·exact absurd (IG gz) (by rw [<-e];exact Jd _)
   ·exact absurd (IG gp) (by rw [<-e];exact Jd _)
   ·exact absurd (IG gq) (by rw [<-e];exact Jd _)
   ·obtain⟨oj,ej,_⟩:=gj
    exact absurd (IG ej) (by rw [<-e];exact Jd _)
   ·obtain⟨ok,ek,_⟩:=gk
    exact absurd (IG ek) (by rw [<-e];exact Jd _)
  refine wpAny_pyNext_zip_item D gz gp gq gj gk pa.isList pb.isList (x:=xv) (y:=yv) (by simpa using hxv) (by simpa using hyv) fun g a1 a2 a3 a4 a5 a6 hk=>?_
  refine⟨.ref s.heap.objs.size,rfl,L8 a1 fun g' gz' sb=>?_⟩
  have fr:=I.aN.fresh (a:=s.heap.objs.size) (IF _)
  have I1:Inv X pins IA (upd H s.heap.objs.size (.tup [x,y])) { s with heap:=s.heap.push { cls:=.type "tuple",data:=.seq #[xv,yv] },toks:=s.toks } :=
   I.laid (fun _ _ e=>II _ e) (IF _) ⟨by show 2<=sizeLine;decide,[xv,yv],.cons rx (.cons ry .nil),by first | exact IsTup.new _ _ | exact⟨_,IK _ rfl,rfl,_,rfl,rfl⟩⟩
  have f1:∀c∈[z,p,q,j,k],hX X pins (upd H s.heap.objs.size (.tup [x,y])) c:=fun c hc=>by
   obtain⟨f0,fr'⟩:=hf c hc
   exact⟨by rw [ao (sz c hc)];exact f0,fr'⟩
  have I2:Inv X pins IA (upd H s.heap.objs.size (.tup [x,y])) { s with heap:=g',toks:=s.toks }:=Inv.iD (s:={ s with heap:=s.heap.push { cls:=.type "tuple",data:=.seq #[xv,yv] },toks:=s.toks }) (fp:=[z,p,q,j,k]) (h':=g') (t':=s.toks) I1 (fun c o hc e=>by
   simp only [IE,Jq,or_false,not_or] at hc
   refine sb.extBut _ _ hc.1 ?_
   rcases Li e with ⟨rfl,rfl⟩ | e
   ·exact a5
   ·exact hk c o hc.1 hc.2.2.1 hc.2.2.2.1 hc.2.2.2.2 e) f1
  refine⟨.ref s.heap.objs.size,_,I2,rfl,⟨_,x,y,rfl,fr,rfl,fun xs' ys' h1 h2=>?_⟩,⟨gz',sb.extBut _ _ D.TIz (hk _ _ D.TIz D.TITO D.TIi1 D.TIi2 gp),⟨xv,yv,sb.extBut _ _ D.TOz a2⟩,a3.extBut sb.extBut D.i1z,a4.extBut sb.extBut D.i2z⟩,fun c hc=>(f1 c hc).1⟩
  rw [I.ll h1 ha,I.ll h2 hb]
  exact⟨hx,hy⟩
 done:=by
  intro X hP hw hK hc i pins s IA H E I hf st hg
  subst hP hw hK
  obtain⟨gz,gp,⟨u,v,gq⟩,gj,gk⟩:=st
  obtain⟨xs,ys,ha,hb,hl⟩:=hg
  obtain⟨is,ra,pa,_⟩:=I.list ha
  obtain⟨js,rb,pb,_⟩:=I.list hb
  have la:=ra.length
  have lb:=rb.length
  have he:is.toArray[i]?=none\/js.toArray[i]?=none:=by
   rcases hl with h | h
   ·exact .inl (by simp;omega)
   ·exact .inr (by simp;omega)
  exact wpAny_pyNext_zip_end (I.ok.hd hc) D gz gp gq gj gk pa.isList pb.isList he fun g hk=>⟨rfl,I.iD (fp:=[z,p,q,j,k]) (t':=s.toks) (fun c o hc e=>by
   simp only [IE,Jq,or_false,not_or] at hc
   exact hk c o hc.1 hc.2.2.1 hc.2.2.2.1 hc.2.2.2.2 e) hf⟩
 self:=fun _ _ _ _ _ st h=>LV st.1 h
theorem HQ {N a b:Nat}(ha:a<N)(hb:b<N):ZipApart (N+4:Nat) (N+2:Nat) (N+3:Nat) N (N+1:Nat) a b :=
 have D:=GZ ha hb
 ⟨D.pz,D.qz,D.jz,D.kz,D.pq,D.pj,D.pk,D.qj,D.qk,D.jk,D.az,D.aq,D.aj,D.ak,D.bz,D.bq,D.bj,D.bk⟩
inductive CC (K:IC) (R:(It->Hp->Prop)) (vs:List V) (H1:Hp):Prop
 | mk (a b:_) (_:vs=[.ref a,.ref b]) (_:(∃xs,aO K H1 a xs)) (_:(∃ys,aO K H1 b ys)) (_:R (sT K a b) H1)
def GN (K:IC)(ta:TA):TI:=fun IA H R=>ta IA H fun vs H1=>CC K R vs H1
theorem Eu {a b:Expr} {ta:TA} {p pos tp:Pos} {elts:List Expr} {kk:Nat} (hg:Gl X "zip") (hm:X.mg "zip" = none) (ha:PA X [a,b] ta) (hs:starEach [a,b] X.env=[(false,eval a X.env),(false,eval b X.env)]:=by rfl) (hs2:starEach [b] X.env=[(false,eval b X.env)]:=by rfl) :
  PI X (.Tuple elts kk tp) (.Call (.Name "zip" p) [a,b] [] pos) (GN X.K ta):=by
 intro pins s IA H R I h
 refine Call_ (iT I hg hm zY (PyProof.Rows.callWith_type1 (aX (ha pos pins s IA H _ I h) fun us s1 ⟨vs,H1,I1,r1,q1⟩=>?_) (by rw [hs,hs2]) (by rw [hs2];rfl)))
 obtain⟨x,y,e,⟨xs,hx⟩,⟨ys,hy⟩,q⟩:=q1
 subst e
 cases r1 with
 | cons r rr =>
  cases rr with
  | cons r' rr =>
   cases rr
   cases r
   cases r'
   obtain⟨is,rx,px,_⟩:=I1.list hx
   obtain⟨js,ry,py,_⟩:=I1.list hy
   have lx:x<s1.heap.objs.size:=px.lt
   have ly:y<s1.heap.objs.size:=py.lt
   refine call_zip_2 px.isList py.isList fun g gz gp gq gj gk _ up=>?_
   refine LV gz ?_
   have I2:Inv X pins IA H1 { s1 with heap:=g }:=I1.kept (t':=s1.toks) up
   refine⟨_,[s1.heap.objs.size+4,s1.heap.objs.size+2,s1.heap.objs.size+3,s1.heap.objs.size,s1.heap.objs.size+1],_,sT X.K x y,H1,rfl,I2,AR x y _ _ _ _ _ ?_,⟨gz,gp,⟨_,_,gq⟩,gj,gk⟩,fun c hc=>?_,q⟩
   ·exact HQ lx ly
   ·have le:s1.heap.objs.size<=c:=by
     simp only [IE,Jq,or_false] at hc
     rcases hc with rfl | rfl | rfl | rfl | rfl
     ·exact JL _ _
     ·exact JL _ _
     ·exact JL _ _
     ·exact IF _
     ·exact JL _ _
    exact I1.lr le (I1.aN.fresh le)
end
theorem CF {K:IC}{a b:Addr}{xs ys:List V}{g:TG}{tb:TS}{D:Ends}{IA : St}{H:Hp}(h1:xs.length<=ys.length)(Pv:Nat->St->Hp->Prop)(h0:Pv 0 IA H)(hl:∀i IA H,i<=xs.length->Pv i IA H->aO K H a xs/\aO K H b ys)
  (hs:∀i x y IA H t,xs[i]?=some x->ys[i]?=some y->H t=none->Pv i IA H->g (.ref t) IA (upd H t (.tup [x,y])) fun σ2 H2=>tb { D with nx:=Pv (i+1),ct:=Pv (i+1),bk:=D.nx } σ2 H2) (hd:∀IA H,Pv xs.length IA H->D.nx IA H) :
  ∃W:Nat->Nat->St->Hp->Prop,(∃m,W 0 m IA H)/\∀i m IA H,W i m IA H ->
   ((sT K a b).stop i H/\D.nx IA H)\/((sT K a b).go i H/\∃N:St->Hp->Prop,(∀σ' H',N σ' H'->∃m',m' < m/\W (i+1) m' σ' H')/\∀x H',(sT K a b).tL i H x H'->g x IA H' fun σ2 H2=>tb { D with nx:=N,ct:=N,bk:=D.nx } σ2 H2):=by
 refine⟨fun i m IA H=>m=xs.length-i/\i<=xs.length/\Pv i IA H,⟨xs.length,by simp,Jc _,h0⟩,?_⟩
 rintro i m IA H ⟨rfl,hi,p⟩
 obtain⟨qa,qb⟩:=hl i IA H hi p
 by_cases hlt:i<xs.length
 ·refine .inr ⟨⟨xs,ys,xs[i],ys[i]'(by omega),qa,qb,by simp [hlt],by simp [show i<ys.length by omega]⟩,Pv (i+1),fun σ' H' p'=>⟨xs.length-(i+1),by omega,rfl,hlt,p'⟩,fun v H' y=>?_⟩
  obtain⟨t,x,y,rfl,ht,rfl,h⟩:=y
  obtain⟨e1,e2⟩:=h xs ys qa qb
  exact hs i x y IA H t e1 e2 ht p
 ·have e:i=xs.length:=by omega
  subst e
  exact .inl ⟨⟨xs,ys,qa,qb,.inl (IF _)⟩,hd IA H p⟩
section
variable (ps:List Piece)
def Iu (p:Nat):Nat:=match ps[p]? with
 | some ([],.go q)=>q
 | _=>p
def sq (p:Nat):Nat->Nat
 | 0=>p
 | i+1=>Iu ps (sq p i)
end
section
variable {ps:List Piece}
end
section
variable {ps:List Piece}{st:Nat->Nat}
end
def Dn (a b:Sp):Sp:=fun vs H Q E=>a vs H Q E\/b vs H Q E
section
variable {ps:List Piece}{G:List Nat}
end
inductive fS (P:Program) (w:World) (C:Addr) (vs:List V) (H:Hp) (Q:VK) (_:XK):Prop
 | mk (plv:V) (ps:List Piece) (xs:List Str) (most:Nat) (_:vs=[plv,.int (most:Nat)]) (_:aJ H plv (bM ps)) (_:bY xs 12 ps) (_:(∀x∈xs,dP x)) (_:xs.length<=60) (_:0<ps.length) (_:ps.length<=60) (_:1<=most) (_:most<=300) (_:∀(v:V) (ds:List PyData) (H':Hp),Paired (fun d c=>CD c d) ds (cy ps most).1->aJ H' v (.tuple [.tuple ((cy ps most).2.map bK),.tuple ds])->af H H'->Q v H')
theorem zd {p:Piece}(h:(PyData.tuple (p.1.map cu)).canLay0=true/\(eX p.2).canLay0=true):(bK p).canLay0=true:=by
 show ((PyData.tuple (p.1.map cu)).canLay0&&((eX p.2).canLay0&&true))=true
 rw [h.1,h.2]
 rfl
def ze (c:Pp)(k:Nat)(U:Str->Sx):Prop:=c.1=(k:Int)/\∀x,jP (U x) (c.2 x)=true
def kY:Option Nat->V
 | none=>.bg
 | some n=>.int (n:Nat)
def FM (paper:List Pp)(ld:Nat×(Str->Sx)):Option Nat->Prop
 | none=>∀c∈paper,¬ze c ld.1 ld.2
 | some i=>(∃c,paper[i]?=some c/\ze c ld.1 ld.2)/\∀(j:Nat) (c:Pp),j<i->paper[j]?=some c->¬ze c ld.1 ld.2
theorem FM.one {paper:List Pp}{ld:Nat×(Str->Sx)}{o o':Option Nat}(h:FM paper ld o)(h':FM paper ld o'):o=o':=by
 cases o with
 | none =>
  cases o' with
  | none=>rfl
  | some j =>
   obtain⟨⟨c,h1,h2⟩,_⟩:=h'
   exact absurd h2 (h c (Ja h1))
 | some i =>
  obtain⟨⟨c,h1,h2⟩,h3⟩:=h
  cases o' with
  | none=>exact absurd h2 (h' c (Ja h1))
  | some j =>
   obtain⟨⟨c',g1,g2⟩,g3⟩:=h'
   rcases Nat.lt_trichotomy i j with z | z | z
   ·exact absurd h2 (g3 i c z h1)
   ·rw [z]
   ·exact absurd g2 (h3 j c' z g1)
def sU (paper:List Pp)(T:Str->Sx)(e:End)(o:Option End):Prop:=∃os:List (Option Nat),Paired (FM paper) (cE T e) os/\((none∈os/\o=none)\/(none∉os/\o=some (gQ e (os.filterMap id))))
theorem lZ {α β : Type}{F:α->β->Prop}(u:∀a b b',F a b->F a b'->b=b'):∀{xs:List α} {ys ys':List β},Paired F xs ys->Paired F xs ys'->ys=ys'
 | _,_,_,.nil,.nil=>rfl
 | _,_,_,.cons h t,.cons h' t'=>by rw [u _ _ _ h h',lZ u t t']
theorem sU.one {paper:List Pp}{T:Str->Sx}{e:End}{o o':Option End}(h:sU paper T e o)(h':sU paper T e o'):o=o':=by
 obtain⟨os,h1,h2⟩:=h
 obtain⟨os',g1,g2⟩:=h'
 obtain rfl:=lZ (F:=FM paper) (fun _ _ _=>FM.one) h1 g1
 rcases h2 with ⟨a,b⟩ | ⟨a,b⟩ <;> rcases g2 with ⟨c,d⟩ | ⟨c,d⟩
 ·rw [b,d]
 ·exact absurd a c
 ·exact absurd c a
 ·rw [b,d]
theorem all_some {os:List (Option Nat)}(h:none∉os):∃ns:List Nat,os=ns.map some/\os.filterMap id=ns:=by
 induction os with
 | nil=>exact⟨[],rfl,rfl⟩
 | cons o os ih =>
  obtain⟨ns,h1,h2⟩:=ih fun z=>h (IM _ z)
  cases o with
  | none=>exact absurd (IP ..) h
  | some n=>exact⟨n::ns,by rw [h1];rfl,by rw [JW];show n::os.filterMap id=_;rw [h2]⟩
inductive rK  (vs:List V) (H:Hp) (Q:VK) (_:XK):Prop
 | mk (lv:V) (pa:Addr) (us:List V) (paper:List Pp) (ld:Nat×(Str->Sx)) (_:vs=[lv,.ref pa]) (_:PV H lv ld) (_:H pa=some (.tup us)) (_:ke H us paper) (_:(∀c∈paper,lU c.2 63)) (_:∀(o:Option Nat) H',FM paper ld o->af H H'->Q (kY o) H')
inductive rL  (vs:List V) (H:Hp) (Q:VK) (_:XK):Prop
 | mk (fv:V) (pc da ea pa:Addr) (wd us:List V) (ds:List cH) (e:End) (paper:List Pp) (T:Str->Sx) (xs:List Str) (_:vs=[fv,.ref pc,.ref pa]) (_:FV H fv T) (_:H pc=some (.tup [.ref da,.ref ea])) (_:H da=some (.tup wd)) (_:aP H wd (ds.map cu)) (_:H ea=some (.tup (fo e))) (_:H pa=some (.tup us)) (_:ke H us paper) (_:cV xs T) (_:(∀d∈ds,cB xs d)) (_:ds.length<=12) (_:xs.length<=50) (_:(∀c∈paper,lU c.2 63)) (_:∀(v:V) (o:Option End) H',sU paper (cK T ds) e o->(o=none->v=.bg)->(∀e',o=some e'->∃t ea',v=.ref t/\H' t=some (.tup [.ref da,.ref ea'])/\H' ea' = some (.tup (fo e')))->af H H'->Q v H')
inductive pB  (vs:List V) (H:Hp) (Q:VK) (_:XK):Prop
 | mk (plv pv:V) (ps:List Piece) (p:Piece) (k:Nat) (_:vs=[plv,.int (k:Nat),pv]) (_:aJ H plv (bM ps)) (_:aJ H pv (bK p)) (_:k<ps.length) (_:ps.length<=1000) (_:∀v H',aJ H' v (bM (ps.set k p))->af H H'->Q v H')
theorem wc {xs:List V}{k:Nat}(h:k<=xs.length):eW xs none (some (k:Int))=xs.take k:=by
 unfold eW
 rw [HT.kG,HT.pN]
 simp [Nat.min_eq_left h]
theorem sV {xs:List V}{k:Nat}(h:k<=xs.length):eW xs (some (k:Int)) none=xs.drop k:=by
 unfold eW
 rw [HT.kG,HT.pN,Nat.min_eq_left h]
 rw [Lj (by rw [Kc];exact IF _)]
theorem Ew {α : Type}{xs:List α}{k:Nat}{x:α}(h:k<xs.length):xs.take k++[x]++xs.drop (k+1)=xs.set k x:=by
 rw [List.set_eq_take_append_cons_drop,if_pos h,Jw]
 rfl
theorem sW:∀os:List (Option Nat),(os.map kY).all h9=true
 | []=>rfl
 | none::os=>by rw [Jj,KL,sW os];rfl
 | some n::os=>by rw [Jj,KL,sW os];rfl
theorem Dp (os:List (Option Nat)):iW V.bg (os.map kY)=decide (none∈os):=by
 induction os with
 | nil=>rfl
 | cons o os ih =>
  cases o with
  | none=>simp [iW,kY,oZ]
  | some n =>
   have e:iW V.bg ((some n::os).map kY)=iW V.bg (os.map kY):=by simp [iW,kY,oZ]
   rw [e,ih]
   simp
inductive Ex (K:IC) (f:Str) (v:V) (IA : St) (Q:(St->Hp->Prop)) (x:V) (H2:Hp):Prop
 | mk (a C dx fs:_) (_:x=.ref a) (_:H2 a=some (.ins C dx fs)) (_:jG K C) (_:eh K C f) (_:fs.length<1000) (_:Q IA (upd H2 a (.ins C dx (cF f v fs))))
def HR (K:IC)(ta:TE)(f:Str):TG:=fun v IA H Q=>ta IA H fun x H2=>Ex K f v IA Q x H2
theorem kZ {X:Cx}{o:Expr}{f:Str}{pos:Pos}{ta:TE}(ha:PE X o ta):PG X (.Attribute o f pos) (HR X.K ta f):=by
 intro pins s IA H v u Q I r h
 rw [assign_Attribute]
 refine Lo (Ls (aX (ha pins s IA H _ I h) fun ov s2 ⟨x,H2,I2,rx,a,C,dx,fs,ex,ea,c,n,l,q2⟩=>?_))
 subst ex
 obtain rfl:ov=Value.ref a:=rx
 refine Lo (LG (Lo (Ls (lB I2 ea c n l r fun s3 I3=>?_))))
 exact wpAny_release ⟨IA,_,I3,q2⟩
structure gC (K:IC) (D:Addr):Prop where
 cl:jG K D
 kept:eh K D "kept"
 bound:eh K D "bound"
 past:eh K D "past"
 lg:eh K D "copies"
 times:eh K D "times"
section
variable {a b c d e z:V}
def fC (a b c d e:V):List (Str×V):=[("kept",a),("bound",b),("past",c),("copies",d),("times",e)]
theorem ma:(fC a b c d e).lookup ("kept" : Str)=some a:=pP
theorem AS:(fC a b c d e).lookup ("bound" : Str)=some b:=eB (by decide +kernel) pP
theorem we:(fC a b c d e).lookup ("past" : Str)=some c:=eB (by decide +kernel) (eB (by decide +kernel) pP)
theorem jt:(fC a b c d e).lookup ("copies" : Str)=some d:=eB (by decide +kernel) (eB (by decide +kernel) (eB (by decide +kernel) pP))
theorem ux:(fC a b c d e).lookup ("times" : Str)=some e:=eB (by decide +kernel) (eB (by decide +kernel) (eB (by decide +kernel) (eB (by decide +kernel) pP)))
theorem CG:cF "kept" z (fC a b c d e)=fC z b c d e:=yO
theorem p8:cF "past" z (fC a b c d e)=fC a b z d e:=eY (by decide +kernel) (eY (by decide +kernel) yO)
theorem zf:cF "copies" z (fC a b c d e)=fC a b c z e:=eY (by decide +kernel) (eY (by decide +kernel) (eY (by decide +kernel) yO))
theorem AU:cF "times" z (fC a b c d e)=fC a b c d z:=eY (by decide +kernel) (eY (by decide +kernel) (eY (by decide +kernel) (eY (by decide +kernel) yO)))
def G7 (a:V):List (Str×V):=[("kept",a)]
def pC (a b:V):List (Str×V):=[("kept",a),("bound",b)]
def G8 (a b c:V):List (Str×V):=[("kept",a),("bound",b),("past",c)]
def G9 (a b c d:V):List (Str×V):=[("kept",a),("bound",b),("past",c),("copies",d)]
theorem Dq:cF "kept" a []=G7 a:=pQ
theorem Dr:cF "bound" b (G7 a)=pC a b:=eY (by decide +kernel) pQ
theorem Ds:cF "past" c (pC a b)=G8 a b c:=eY (by decide +kernel) (eY (by decide +kernel) pQ)
theorem GO:cF "copies" d (G8 a b c)=G9 a b c d:=eY (by decide +kernel) (eY (by decide +kernel) (eY (by decide +kernel) pQ))
theorem GP:cF "times" e (G9 a b c d)=fC a b c d e:=eY (by decide +kernel) (eY (by decide +kernel) (eY (by decide +kernel) (eY (by decide +kernel) pQ)))
theorem CH:(fC a b c d e).lookup ("mend" : Str)=none:=eB (by decide +kernel) (eB (by decide +kernel) (eB (by decide +kernel) (eB (by decide +kernel) (eB (by decide +kernel) rfl))))
theorem uL:(fC a b c d e).lookup ("make_anew" : Str)=none:=eB (by decide +kernel) (eB (by decide +kernel) (eB (by decide +kernel) (eB (by decide +kernel) (eB (by decide +kernel) rfl))))
end
def nK (D:Addr)(H:Hp)(kp:Addr)(plv:V)(most:Nat)(ov cv:V)(n:Int):Prop:=∃dx,H kp=some (.ins D dx (fC plv (.int (most:Nat)) ov cv (.int n)))
def cm (kp:Addr)(H H':Hp):Prop:=∀c o,H c=some o->c≠kp->H' c=some o
theorem cm.trans {kp:Addr}{H H1 H2:Hp}(a:cm kp H H1)(b:cm kp H1 H2):cm kp H H2:=fun c o h n=>b c o (a c o h n) n
theorem cm.of_same {kp:Addr}{H H':Hp}(s:af H H'):cm kp H H':=fun c o e _=>s c o e
theorem cm.put {kp:Addr}{H:Hp}{o:HO}:cm kp H (upd H kp o):=fun c u h n=>by rw [ao n];exact h
theorem cm.av {kp:Addr}{H H':Hp}{C dx:Addr}{fs:List (Str×V)}(b:cm kp H H')(hk:H kp=some (.ins C dx fs)):∀p xs,H p=some (.tup xs)->H' p=some (.tup xs):=fun p xs e=>b p _ e (bU e hk (by intro z;cases z))
structure gF (xs:List Str) (ps:List Piece) (most:Nat):Prop where
 bW:bY xs 12 ps
 gm:∀x∈xs,dP x
 b8:xs.length<=50
 n0:0<ps.length
 pD:ps.length<=60
 m1:1<=most
 m3:most<=300
section
variable (D:Addr)
inductive gr (f:Nat) (vs:List V) (H:Hp) (Q:VK) (_:XK):Prop
 | mk (kp:Addr) (plv ov cv:V) (most:Nat) (n:Int) (_:vs=[.ref kp]) (_:nK D H kp plv most ov cv n) (_:Q (match f with | 0=>plv | 1=>ov | 2=>cv | _=>.int n) H)
inductive jy  (vs:List V) (H:Hp) (Q:VK) (_:XK):Prop
 | mk (kp dx:Addr) (plv:V) (ps:List Piece) (xs:List Str) (most:Nat) (_:vs=[.ref kp,plv,.int (most:Nat)]) (_:H kp=some (.ins D dx [])) (_:aJ H plv (bM ps)) (_:gF xs ps most) (_:∀(ov cv:V) (ds:List PyData) H',Paired (fun d c=>CD c d) ds (cy ps most).1->aJ H' ov (bM (cy ps most).2)->aJ H' cv (.tuple ds)->nK D H' kp plv most ov cv 1->cm kp H H'->Q .bg H')
inductive ye  (vs:List V) (H:Hp) (Q:VK) (_:XK):Prop
 | mk (kp:Addr) (plv ov0 cv0:V) (ps:List Piece) (xs:List Str) (most:Nat) (n:Int) (_:vs=[.ref kp]) (_:nK D H kp plv most ov0 cv0 n) (_:aJ H plv (bM ps)) (_:gF xs ps most) (_:∀(ov cv:V) (ds:List PyData) H',Paired (fun d c=>CD c d) ds (cy ps most).1->aJ H' ov (bM (cy ps most).2)->aJ H' cv (.tuple ds)->nK D H' kp plv most ov cv (n+1)->cm kp H H'->Q .bg H')
end
theorem fU:∀{ds:List PyData} {cs:List Cp},Paired (fun d c=>CD c d) ds cs->bA (.tuple ds)=true
 | _,_,.nil=>rfl
 | _,_,.cons (a:=d) (l₁:=ds) h t=>by
  have h1:=fU t
  show (bA d&&bB ds)=true
  rw [h.j6,show bB ds=true from h1]
  rfl
def fi:List Piece->List Nat->List Piece->List Piece
 | qs,n::ns,p::ps=>fi (qs.set n p) ns ps
 | qs,_,_=>qs
theorem me:∀(ns:List Nat) (qs ps:List Piece),(fi qs ns ps).length=qs.length
 | [],qs,ps=>by cases ps <;> rfl
 | n::ns,qs,[]=>rfl
 | n::ns,qs,p::ps=>by show (fi (qs.set n p) ns ps).length=_;rw [me,JG]
theorem pE:∀(ns:List Nat) (qs ps:List Piece) (n:Nat) (p:Piece),ns.length=ps.length->fi qs (ns++[n]) (ps++[p])=(fi qs ns ps).set n p
 | [],qs,[],n,p,_=>rfl
 | [],qs,_::_,n,p,h=>nomatch h
 | _::_,qs,[],n,p,h=>nomatch h
 | m::ns,qs,q::ps,n,p,h=>by
  show fi (qs.set m q) (ns++[n]) (ps++[p])=(fi (qs.set m q) ns ps).set n p
  exact pE ns _ ps n p (Nat.succ.inj h)
inductive yf (D:Addr) (vs:List V) (H:Hp) (Q:VK) (_:XK):Prop
 | mk (kp la lb:Addr) (plv ov cv:V) (most:Nat) (n:Int) (ns:List Nat) (pvs:List V) (qs ps':List Piece) (_:vs=[.ref kp,.ref la,.ref lb]) (_:nK D H kp plv most ov cv n) (_:aJ H ov (bM qs)) (_:qs.length<=1000) (_:H la=some (.lst (vN ns))) (_:H lb=some (.lst pvs)) (_:aP H pvs (ps'.map bK)) (_:ns.length=ps'.length) (_:(∀k∈ns,k<qs.length)) (_:∀(ov':V) H',aJ H' ov' (bM (fi qs ns ps'))->nK D H' kp plv most ov' cv n->cm kp H H'->Q .bg H')
def Dt (d:PyData):Prop:=d=.none\/((∃zs,d=.tuple zs)/\d.canLay0=true)
def wg:Value->Bool
 | .none=>true
 | _=>false
section
variable {X:Cx}{pins:List (Addr×Obj)}{IA : St}{H:Hp}{s:Shared}
theorem FW {A:Around}(I:Inv X pins IA H s)(hu:A.units+64<cLine){x:V}{u:Value}{d:PyData}(rx:RelV x u)(rd:aJ H x d)(h:Dt d):SeqAt.EqAt A s u .none (wg u)/\wg u=decide (d=.none):=by
 obtain⟨bs,rb⟩:=rd.reads I.aN rx
 rcases h with rfl | ⟨⟨zs,rfl⟩,hl⟩
 ·have e:=SeqAt.eqAt_reads .none .none A s u .none bs [] rb .none rfl rfl (by show A.units+min 0 0<cLine;omega)
  cases rb
  exact⟨e,(decide_eq_true rfl).symm⟩
 ·have e:=SeqAt.eqAt_reads (.tuple zs) .none A s u .none bs [] rb .none hl rfl (by show A.units+min _ 0<cLine;omega)
  cases rb
  exact⟨e,(decide_eq_false (fun z=>nomatch z)).symm⟩
inductive FX (K:IC) (x:V) (y:V) (H:Hp) (Q:VK):Prop
 | mk (p:Addr) (xs:List V) (ds:List PyData) (_:x=.bg) (_:y=.ref p) (_:aO K H p xs) (_:aP H xs ds) (_:(∀e∈ds,Dt e)) (_:Q (.bl (decide (PyData.none∈ds))) H)
theorem Du {A:Around}(I:Inv X pins IA H s)(hu:A.units+64<cLine):∀{xs:List V} {us:List Value} {ds:List PyData},Vals xs us->aP H xs ds->(∀e∈ds,Dt e)->(∀u∈us,SeqAt.EqAt A s u .none (wg u))/\us.any wg=decide (PyData.none∈ds)
 | _,_,_,.nil,.nil,_=>⟨(fun u h=>nomatch h),(decide_eq_false (fun z=>nomatch z)).symm⟩
 | _,_,_,.cons r t,.cons rd rt,h=>by
  obtain⟨h1,h2⟩:=FW I hu r rd (h _ (IP ..))
  obtain⟨g1,g2⟩:=Du I hu t rt fun e he=>h e (IM _ he)
  refine⟨fun u hu'=>?_,?_⟩
  ·rcases IE.mp hu' with rfl | hu'
   ·exact h1
   ·exact g1 u hu'
  ·rw [Kd,g2,h2]
   rename_i d ds
   by_cases z:d=.none
   ·subst z;simp
   ·have:(PyData.none∈d::ds)↔PyData.none∈ds:=by rw [IE];exact⟨fun q=>q.resolve_left fun w=>z w.symm,.inr⟩
    simp only [this,decide_eq_false z,Bool.false_or]
theorem CI (hu:X.A.units+66<cLine):dZ X (compareOp .In) (FX X.K):=by
 intro pins s IA H x y v u Q I rx ry h
 obtain⟨p,xs,ds,rfl,rfl,hq,rd,hk,q⟩:=h
 cases ry
 obtain rfl:v=Value.none:=rx
 obtain⟨its,rv,pl,hz⟩:=I.list hq
 have key:=Du (A:=X.A.in1) I (by first | (rw [Around.in1_units];omega) | omega) rv rd hk
 refine SeqAt.in_listAt wg pl.isList (fun w hw=>key.1 w (by simpa using hw)) ⟨.bl _,H,I,rfl,?_⟩
 rw [show its.toArray.any wg=its.any wg by simp,key.2]
 exact q
end
def ja (cs:List Cp)(k i:Nat):List Nat:=(Js i).filter fun i=>decide ((cs[i]?.map (·.1))=some k)
theorem CJ {cs:List Cp}{k i:Nat}{c:Cp}(hc:cs[i]?=some c)(h:c.1=k):ja cs k (i+1)=ja cs k i++[i]:=by
 unfold ja
 rw [List.range_succ,Kg]
 congr 1
 simp [hc,h]
theorem Ey {cs:List Cp}{k i:Nat}{c:Cp}(hc:cs[i]?=some c)(h:¬c.1=k):ja cs k (i+1)=ja cs k i:=by
 unfold ja
 rw [List.range_succ,Kg]
 simp [hc,h]
theorem yg {cs:List Cp}{k i j:Nat}(h:j∈ja cs k i):j<i/\∃c,cs[j]?=some c/\c.1=k:=by
 unfold ja at h
 obtain⟨h1,h2⟩:=JU.mp h
 refine⟨JV.mp h1,?_⟩
 have h2:=of_decide_eq_true h2
 cases e:cs[j]? with
 | none=>rw [e] at h2;cases h2
 | some c=>rw [e] at h2;exact⟨c,rfl,IU.inj h2⟩
theorem wj {cs:List Cp}{k i:Nat}:(ja cs k i).length<=i:=by
 unfold ja
 exact IQ (J3 _ _) (by rw [KY];exact IF _)
def eR (cs:List Cp)(k:Nat):List Nat:=(Js cs.length).filter fun i=>decide ((cs[i]?.map (·.1))=some k)
def nO (cs:List Cp)(p:Piece)(ns:List Nat)(os:List (Option End)):Prop:=Paired (fun (i:Nat) (o:Option End)=>∃c,cs[i]?=some c/\sU (cs.map ip) (cK c.2 p.1) p.2 o) ns os
inductive yh (D:Addr) (vs:List V) (H:Hp) (Q:VK) (_:XK):Prop
 | mk (kp:Addr) (plv ov cv qv:V) (most k:Nat) (n:Int) (ps qs:List Piece) (p:Piece) (cs:List Cp) (ds:List PyData) (xs:List Str) (_:vs=[.ref kp,.int (k:Nat),qv]) (_:nK D H kp plv most ov cv n) (_:aJ H plv (bM ps)) (_:aJ H ov (bM qs)) (_:aJ H cv (.tuple ds)) (_:Paired (fun d c=>CD c d) ds cs) (_:aJ H qv (bK p)) (_:k<ps.length) (_:gF xs (ps.set k p) most) (_:(∀c∈cs,cV xs c.2)) (_:cs.length<=qs.length) (_:qs.length<=400) (_:∀os,nO cs p (eR cs k) os->(none∈os->∀(plv' ov' cv':V) (ds':List PyData) H',aJ H' plv' (bM (ps.set k p))->Paired (fun d c=>CD c d) ds' (cy (ps.set k p) most).1->aJ H' ov' (bM (cy (ps.set k p) most).2)->aJ H' cv' (.tuple ds')->nK D H' kp plv' most ov' cv' (n+1)->cm kp H H'->Q .bg H')/\(∀es:List End,os=es.map some->∀(plv' ov':V) (t:Addr) H',H' t=some (.tup (vN (eR cs k)))->aJ H' plv' (bM (ps.set k p))->aJ H' ov' (bM (fi qs (eR cs k) (es.map fun e=>(p.1,e))))->nK D H' kp plv' most ov' cv n->cm kp H H'->Q (.ref t) H'))
def rM (p:Piece):Option End->PyData
 | none=>.none
 | some e=>bK (p.1,e)
theorem rN (p:Piece):∀os:List (Option End),bB (os.map (rM p))=true
 | []=>rfl
 | none::os=>by show (true&&bB (os.map (rM p)))=true;rw [rN p os];rfl
 | some e::os=>by show (bA (bK (p.1,e))&&bB (os.map (rM p)))=true;rw [bZ,rN p os];rfl
theorem wm {e:End}(h:(eX e).canLay0=true)(ns:List Nat):(eX (gQ e ns)).canLay0=true:=by
 match ns with
 | []=>cases e <;> exact h
 | [a]=>exact FR a
 | a::b::[] =>
  cases e with
  | stop=>exact h
  | go q=>exact h
  | cC bb x n p q=>exact Es (wb h)
 | a::b::c::r=>cases e <;> exact h
theorem FY {cs:List Cp}{p:Piece}(hd:(PyData.tuple (p.1.map cu)).canLay0=true)(he:(eX p.2).canLay0=true){ns:List Nat}{os:List (Option End)}(h:nO cs p ns os):∀d∈os.map (rM p),Dt d:=fun d hm=>by
 obtain⟨o,ho,rfl⟩:=IS.mp hm
 cases o with
 | none=>exact .inl rfl
 | some e =>
  obtain⟨j,hj⟩:=K7 ho
  obtain⟨n,_,c,_,os',_,h2⟩:=lY h hj
  have e2:some e=some (gQ p.2 (os'.filterMap id)):=by
   rcases h2 with ⟨_,z⟩ | ⟨_,z⟩
   ·cases z
   ·exact z
  have e2:=IU.inj e2
  refine .inr ⟨⟨_,rfl⟩,dh _ fun y hy=>?_⟩
  rcases IE.mp hy with rfl | hy
  ·exact hd
  ·rw [IH.mp hy,e2];exact wm he _
theorem yi {p:Piece}{os:List (Option End)}:PyData.none∈os.map (rM p)↔none∈os:=by
 constructor
 ·intro h
  obtain⟨o,ho,e⟩:=IS.mp h
  cases o with
  | none=>exact ho
  | some e'=>exact absurd e (fun z=>nomatch z)
 ·intro h
  exact IS.mpr ⟨none,h,rfl⟩
theorem AV {os:List (Option End)}(h:none∉os):∃es:List End,os=es.map some:=by
 induction os with
 | nil=>exact⟨[],rfl⟩
 | cons o os ih =>
  obtain⟨es,h1⟩:=ih fun z=>h (IM _ z)
  cases o with
  | none=>exact absurd (IP ..) h
  | some n=>exact⟨n::es,by rw [h1];rfl⟩
theorem cB.mono {xs ys:List Str}(h:∀x∈xs,x∈ys){d:cH}(hd:cB xs d):cB ys d:=by
 cases d with
 | put x n=>exact⟨h x hd.1,hd.2⟩
 | copy x y=>exact⟨h x hd.1,h y hd.2⟩
 | add x n=>exact⟨h x hd.1,hd.2⟩
 | read x=>exact h x hd
 | tell x=>exact h x hd
theorem ft.mono {xs ys:List Str}{c:Nat}(h:∀x∈xs,x∈ys){e:End}(he:ft xs c e):ft ys c e:=by
 cases e with
 | stop=>exact True.intro
 | go p=>exact he
 | cC b x n p q=>exact⟨h x he.1,he.2⟩
inductive uy  (vs:List V) (H:Hp) (Q:VK) (_:XK):Prop
 | mk (b:Addr) (plv:V) (ps:List Piece) (xs:List Str) (_:vs=[.ref b,plv]) (_:cT H b) (_:aJ H plv (bM ps)) (_:bY xs 12 ps) (_:(∀x∈xs,dP x)) (_:("abcdefgh" : Str)∈xs) (_:xs.length<=50) (_:0<ps.length) (_:ps.length<=60) (_:∀(v:V) (p:Piece) H',aJ H' v (bK p)->(p.1.length<=12/\∀d∈p.1,cB xs d)->ft xs ps.length p.2->cT H' b->Fix b H H'->Q v H')
inductive GQ  (x:V) (lo:Option Int) (hi:Option Int) (H:Hp) (Q:VK):Prop
 | mk (a:Addr) (xs:List V) (_:x=.ref a) (_:H a=some (.tup xs)) (_:∀(p:Addr) (H':Hp),H' p=some (.tup (eW xs lo hi))->af H H'->Q (.ref p) H')
theorem yj {X:Cx}:C2 X GQ:=by
 intro pins s IA H x v vl vu lo hi sl Q I rx hs pl pu h
 obtain⟨a,xs,rfl,ha,q⟩:=h
 refine kQ pins s IA H _ v vl vu lo hi sl Q I rx hs pl pu ⟨a,xs,rfl,aw.of ha,fun hw=>q a H ?_ (af.refl H),fun _ p np=>q p _ aa (af.new np)⟩
 unfold eW
 rw [hw.1,hw.2,List.drop_zero,Nat.sub_zero,Jn]
 exact ha
theorem Ez {xs:List V}{ds:List cH}{H:Hp}{k:Nat}(h:aP H xs (ds.map cu))(hk:k<=xs.length):aP H (eW xs none (some (k:Int))) ((ds.take k).map cu)/\aP H (eW xs (some (k:Int)) none) ((ds.drop k).map cu):=by
 rw [wc hk,sV hk,List.map_take,List.map_drop]
 exact⟨h.Dm k,h.Dl k⟩
theorem nO.one {cs:List Cp}{p:Piece}{ns:List Nat}{os os':List (Option End)}(h:nO cs p ns os)(h':nO cs p ns os'):os=os' :=
 lZ (fun i o o' h1 h2=>by
  obtain⟨c,hc,hp⟩:=h1
  obtain⟨c',hc',hp'⟩:=h2
  rw [hc] at hc'
  cases hc'
  exact sU.one hp hp') h h'
theorem gF.set {xs:List Str}{ps:List Piece}{most k:Nat}{p:Piece}(h:gF xs ps most)(hd:p.1.length<=12/\∀d∈p.1,cB xs d)(he:ft xs ps.length p.2):gF xs (ps.set k p) most where
 bW:={
  fb:=fun q hq=>(K8 hq).elim (h.bW.fb q) fun z=>by rw [z];exact hd
  ends:=fun q hq=>by
   rw [JG]
   exact (K8 hq).elim (h.bW.ends q) fun z=>by rw [z];exact he }
 gm:=h.gm
 b8:=h.b8
 n0:=by rw [JG];exact h.n0
 pD:=by rw [JG];exact h.pD
 m1:=h.m1
 m3:=h.m3
inductive nQ (cs:List Cp) (qs ps:List Piece) (k m:Nat) (p:Piece) (n:Int) (os:List (Option End)) (dd:PyData) (qs2:List Piece) (cs2:List Cp) (n2:Int):Prop
 | anew (h:none∈os) (h1:dd=.none) (h2:qs2=(cy (ps.set k p) m).2) (h3:cs2=(cy (ps.set k p) m).1) (h4:n2=n+1)
 | nR (es:List End) (h:os=es.map some) (h1:dd=.tuple ((eR cs k).map lR)) (h2:qs2=fi qs (eR cs k) (es.map fun e=>(p.1,e))) (h3:cs2=cs) (h4:n2=n)
theorem nQ.one {cs:List Cp}{qs ps:List Piece}{k m:Nat}{p:Piece}{n:Int}{os os':List (Option End)}{dd dd':PyData}{qs2 qs2':List Piece}{cs2 cs2':List Cp}{n2 n2':Int}(ho:nO cs p (eR cs k) os)(ho':nO cs p (eR cs k) os')(h:nQ cs qs ps k m p n os dd qs2 cs2 n2)(h':nQ cs qs ps k m p n os' dd' qs2' cs2' n2'):dd=dd'/\qs2=qs2'/\cs2=cs2'/\n2=n2':=by
 obtain rfl:=nO.one ho ho'
 cases h with
 | anew h h1 h2 h3 h4 =>
  cases h' with
  | anew g g1 g2 g3 g4=>exact⟨by rw [h1,g1],by rw [h2,g2],by rw [h3,g3],by rw [h4,g4]⟩
  | nR es g g1 g2 g3 g4 =>
   rw [g] at h
   obtain⟨_,_,z⟩:=IS.mp h
   cases z
 | nR es h h1 h2 h3 h4 =>
  cases h' with
  | anew g g1 g2 g3 g4 =>
   rw [h] at g
   obtain⟨_,_,z⟩:=IS.mp g
   cases z
  | nR es' g g1 g2 g3 g4 =>
   have e:es=es':=by
    have:=h.symm.trans g
    have h2:=congrArg (Kv id) this
    rw [Lh,Lh] at h2
    have e1:∀l:List End,Kv (id ∘ some) l=l:=fun l=>by show Kv some l=l;rw [List.filterMap_some]
    rw [e1,e1] at h2
    exact h2
   subst e
   exact⟨by rw [h1,g1],by rw [h2,g2],by rw [h3,g3],by rw [h4,g4]⟩
theorem nQ.keeps {cs:List Cp}{qs ps:List Piece}{k m:Nat}{p:Piece}{n:Int}{os:List (Option End)}{dd:PyData}{qs2:List Piece}{cs2:List Cp}{n2:Int}{xs:List Str}(h:nQ cs qs ps k m p n os dd qs2 cs2 n2)(ok:gF xs (ps.set k p) m)(tok:∀c∈cs,cV xs c.2)(hl:cs.length<=qs.length)(h4:qs.length<=400):(∀c∈cs2,cV xs c.2)/\cs2.length<=qs2.length/\qs2.length<=400:=by
 cases h with
 | anew h h1 h2 h3 h4' =>
  obtain⟨I,hol,_⟩:=jR ok.bW ok.n0 ok.m1
  have hsz:=ur ok.bW ok.n0 ok.m1
  have hLP:=(uv ok.bW ok.n0 ok.m1).len
  rw [ID] at hLP
  rw [h2,h3]
  have:=ok.pD
  have:=ok.m3
  exact⟨fun c hc=>(I.ok c hc).2,by omega,by have:=hsz.2;omega⟩
 | nR es h h1 h2 h3 h4' =>
  rw [h2,h3,me]
  exact⟨tok,hl,h4⟩
theorem rO:∀(ns:List Nat) (qs ps:List Piece),i8 qs->i8 ps->i8 (fi qs ns ps)
 | [],qs,ps,h,_=>by cases ps <;> exact h
 | n::ns,qs,[],h,_=>h
 | n::ns,qs,p::ps,h,g=>rO ns _ ps (Et h (g p (IP ..))) fun q hq=>g q (IM _ hq)
theorem nQ.lay {cs:List Cp}{qs ps:List Piece}{k m:Nat}{p:Piece}{n:Int}{os:List (Option End)}{dd:PyData}{qs2:List Piece}{cs2:List Cp}{n2:Int}{xs:List Str}(h:nQ cs qs ps k m p n os dd qs2 cs2 n2)(ho:nO cs p (eR cs k) os)(ok:gF xs (ps.set k p) m)(hk:k<ps.length)(l:i8 qs):i8 qs2:=by
 cases h with
 | anew h h1 h2 h3 h4=>rw [h2];exact jO ok.gm (uq ok.bW ok.n0 ok.m1)
 | nR es h h1 h2 h3 h4 =>
  rw [h2]
  have hp:p∈ps.set k p:=Ja (Ky hk)
  have lp:=jO ok.gm ok.bW p hp
  refine rO _ _ _ l fun q hq=>?_
  obtain⟨e,he,rfl⟩:=IS.mp hq
  refine⟨lp.1,?_⟩
  obtain⟨j,hj⟩:=K7 (show some e∈os by rw [h];exact IS.mpr ⟨e,he,rfl⟩)
  obtain⟨n,_,c,_,os',_,h2⟩:=lY ho hj
  have e2:some e=some (gQ p.2 (os'.filterMap id)):=by
   rcases h2 with ⟨_,z⟩ | ⟨_,z⟩
   ·cases z
   ·exact z
  rw [IU.inj e2]
  exact wm lp.2 _
def oJ (ps qs:List Piece)(ds:List PyData)(n:Int):PyData:=.tuple [bM ps,bM qs,.tuple ds,.int n]
theorem uz {ps:List Piece}(h:i8 ps):(bM ps).canLay0=true:=dh _ fun d hd=>by
 obtain⟨p,hp,rfl⟩:=IS.mp hd
 exact zd (h p hp)
theorem uA (ps:List Piece):(bM ps).depth<=8:=by
 have h1:=jx (m:=3) (ps.map bK) fun d hd=>by obtain⟨x,_,rfl⟩:=IS.mp hd;exact AE x
 show PyData.depthAll (ps.map bK)+1<=8
 omega
theorem EA {xs:List Str}{ps qs:List Piece}{ds:List PyData}{cs:List Cp}{n:Int}(h:Paired (fun d c=>CD c d) ds cs)(gm:∀x∈xs,dP x)(tok:∀c∈cs,cV xs c.2)(lp:i8 ps)(lq:i8 qs):(oJ ps qs ds n).canLay0=true/\(oJ ps qs ds n).depth<=60:=by
 obtain⟨l1,l2⟩:=Em h fun c hc=>(tok c hc).lay gm
 constructor
 ·refine dh _ fun d hd=>?_
  rcases IE.mp hd with rfl | hd
  ·exact uz lp
  rcases IE.mp hd with rfl | hd
  ·exact uz lq
  rcases IE.mp hd with rfl | hd
  ·exact dh _ l1
  ·rw [IH.mp hd];rfl
 ·have h2:=jx (m:=7) ds l2
  have h3:=jx (m:=8) [bM ps,bM qs,.tuple ds,.int n] fun d hd=>by
   rcases IE.mp hd with rfl | hd
   ·exact uA _
   rcases IE.mp hd with rfl | hd
   ·exact uA _
   rcases IE.mp hd with rfl | hd
   ·show PyData.depthAll ds+1<=8;omega
   ·rw [IH.mp hd];exact Jc _
  show PyData.depthAll _+1<=60
  omega
theorem nQ.told {cs:List Cp}{qs ps:List Piece}{k m:Nat}{p:Piece}{n:Int}{os:List (Option End)}{dd:PyData}{qs2:List Piece}{cs2:List Cp}{n2:Int}(h:nQ cs qs ps k m p n os dd qs2 cs2 n2):dd.canLay0=true/\dd.depth<=60/\bA dd=true:=by
 cases h with
 | anew h h1 h2 h3 h4=>rw [h1];exact⟨rfl,Jc _,rfl⟩
 | nR es h h1 h2 h3 h4 =>
  rw [h1]
  have nl:∀l:List Nat,bB (l.map lR)=true:=by
   intro l
   induction l with
   | nil=>rfl
   | cons a l ih=>show (true&&bB (l.map lR))=true;rw [ih];rfl
  exact⟨AN _,CB _,nl _⟩
open PySem.Calls PySem.W Builtin.Getset_descriptor
structure kf (K:IC) (C:Addr):Prop where
 ok:excIn K C [.type "ValueError",.type "Exception",.type "BaseException",.type "object"] "ValueError.__new__" = true
 ga:findIn K (.ref C) "__getattribute__" = some (some (.builtin "BaseException.__getattribute__"))
 gn:findIn K (.ref C) "__getattr__" = some none
 cl:findIn K (.ref C) "__class__" = some (some (.builtin "object.__class__"))
 ob:mroIn K C (.type "object")=some true
 bx:mroIn K C (.type "BaseException")=some true
section
variable {prog:Program}{w:World}{A:Around}{E:Value->Shared->Prop}{s:Shared}{K:Frag}{x C:Addr}
def iS (h:Heap)(x C:Addr):Prop:=∃o,h.get? x=some o/\o.cls=.ref C
theorem iS.ty {M:Model}{h:Heap}(I:iS h x C):Looks M h (typeOf (.ref x)) (.ref C):=by
 obtain⟨o,h1,h2⟩:=I
 exact h2 ▸ (Looks.ld h1).andThen .now
theorem FZ {nameV:Value}{R:Result->Shared->Prop}(X:K.In s.heap)(I:iS s.heap x C)(T:kf K C)
  (h:wpAny (model prog w) (A.in1) (Builtin.«object.__getattribute__» ⟨[.ref x,nameV],[]⟩) (fun f s'=>match f with | .done r=>R (.ok r) s' | _=>False) (fun e s'=>R (.error e) s') s) :
  codeAny (model prog w) A (.call (.builtin "BaseException.__getattribute__") ⟨[.ref x,nameV],[]⟩) R s:=by
 have LI:Looks (model prog w) s.heap (isInstance (.ref x) (.type "BaseException")) true:=I.ty.andThen (looks_mroIn X T.bx)
 have hk:builtinKind "BaseException.__getattribute__" = some .slot:=by decide +kernel
 have hs:splitId "BaseException.__getattribute__" = some ("BaseException", "__getattribute__"):=by decide +kernel
 have ha:=PySem.F.args_bexc_ga (.ref x) nameV
 refine L6 PySem.F.attr_ValueError.ga.plain PySem.F.entry_bexc_ga ?_
 generalize Builtin.«object.__getattribute__» ⟨[.ref x,nameV],[]⟩=body at h ⊢
 simp only [checkBuiltinCall,hk,hs]
 refine Lo (LI.at ?_)
 obtain⟨hh,g,d,t,os⟩:=s
 repeat (any_goals (first | assumption | wp_step))
 refine Lr h (fun f s' z=>?_) fun _ _ z=>z
 rcases f with _ | _
 ·exact z
 ·exact z.elim
theorem F5 {R:Result->Shared->Prop} {tp:Value} (X:K.In s.heap) (I:iS s.heap x C) (hm:mroIn K C (.type "object")=some true) (h:R (.ok (.ret (.ref C))) s) :
  codeAny (model prog w) A (.call (.builtin "getset_descriptor.__get__") ⟨[.builtin "object.__class__",.ref x,tp],[]⟩) R s:=by
 have T0:=I.ty (M:=model prog w)
 have T1:=looks_mroIn (M:=model prog w) X hm
 obtain⟨hh,g,dr,t,os⟩:=s
 refine L6 KF.slot_gs.plain KF.entry_gs (KF.slot_gs.check _ _ _ _ _ _ _ _ KF.type_class (KF.args_gs _ _ _) ?_)
 unfold Builtin.«getset_descriptor.__get__» descrGet;rw [dga_obj];refine Lo (Lq ?_)
 unfold descrGetter descrCheckInstance descrNameAndClass isInstance;simp only [KF.owner_class];repeat lk
 refine⟨Code.quiet_builtin _ (by decide +kernel),Ly KF.entry_class ?_⟩;unfold Builtin.«object.__class__» shownTypeOf;repeat lk
 exact h
theorem AW {M:Model} {h:Heap} {name:Str} {a g:Value} (X:K.In h) (ha:findIn K (.ref C) name=some (some a)) (hg:specialIn K a "__get__" = some (some g)) (ht:takesIn K a=some true):Looks M h (Builtin.ObjectAttr.find (.ref x) (.ref C) name) (.bind g a):=by
 have q1:=looks_findIn (M:=M) X ha
 have q2:Looks M h (Builtin.ObjectAttr.getOf (some a)) (some g):=looks_specialIn X hg
 have q3:=looks_takesIn (M:=M) X ht
 exact q1.andThen (q2.andThen ((show Looks M h (Builtin.ObjectAttr.dataDescriptor? (some a) (some g)) (some (g,a)) from q3.andThen .now).andThen (Looks.tag .now)))
theorem EB:specialIn K (.builtin "object.__class__") "__get__" = some (some (.builtin "getset_descriptor.__get__")):=by
 show (typeIn K (.builtin "object.__class__")).bind _=_
 rw [show typeIn K (.builtin "object.__class__")=some (.type "getset_descriptor") from by show pureOf (fastBuiltinType "object.__class__")=_;decide +kernel]
 show fastLookup "getset_descriptor" "__get__" = _
 decide +kernel
theorem EC:takesIn K (.builtin "object.__class__")=some true:=by
 unfold takesIn
 rw [show specialIn K (.builtin "object.__class__") "__set__" = some (some (.builtin "getset_descriptor.__set__")) from by
  show (typeIn K (.builtin "object.__class__")).bind _=_
  rw [show typeIn K (.builtin "object.__class__")=some (.type "getset_descriptor") from by show pureOf (fastBuiltinType "object.__class__")=_;decide +kernel]
  show fastLookup "getset_descriptor" "__set__" = _
  decide +kernel]
theorem AX {Q:Option Value->Shared->Prop}(X:K.In s.heap)(I:iS s.heap x C)(T:kf K C)(h:Q (some (.ref C)) { s with toks:=s.toks+1 }):wpAny (model prog w) A (getAttr? (.ref x) "__class__") Q E s:=by
 have T0:=I.ty (M:=model prog w)
 have T1:=looks_findIn (M:=model prog w) X T.ga
 have T2:=looks_findIn (M:=model prog w) X T.gn
 have LF:=AW (M:=model prog w) (x:=x) X T.cl EB EC
 obtain⟨hh,g,d,t,os⟩:=s
 unfold getAttr? getAttrBy? getAttrBy
 refine Lo (wpAny_mkText (Lo (LD (Ls (Lo (T0.at (Lo (T1.at ?_))))))))
 show wpAny _ _ (getAttrByItsOwn _ _ _ _ _ _) _ _ _
 unfold getAttrByItsOwn hookBefore
 have f3:=PySem.F.attr_ValueError.ga.bind (.ref x)
 repeat (any_goals (first | assumption | (with_reducible refine T2.at ?_) | wp_step))
 refine FZ X I T ?_
 repeat (any_goals (first | assumption | (with_reducible refine T0.at ?_) | (with_reducible refine LF.at ?_) | wp_step))
 refine F5 X I T.ob ?_
 repeat (any_goals (first | assumption | (with_reducible refine handed_on rfl ?_) | wp_step))
theorem p9 (T:kf K C):KitX K (.ref x) (.ref C) (fun h=>iS h x C):=by
 obtain⟨cd,hc,_⟩:=Option.bind_eq_some_iff.mp T.ob
 have lk:∃c d sl,K.lookup C=some ⟨c,d,.cls cd,sl⟩:=by
  unfold clsIn at hc
  split at hc
  ·rename_i ho;cases hc;exact⟨_,_,_,ho⟩
  ·cases hc
 obtain⟨c',d',sl',ho⟩:=lk
 refine⟨fun _ _ _ I=>I.ty,fun _ _ X _=>?_,fun h tp dd its n sl X htp=>?_,fun X I k=>AX X I T k⟩
 ·intro A' Q' E' s' k q
  unfold isType loadHead
  exact Lo (wpAny_loadPart (k _ _ (X _ _ ho)) (Lq q))
 ·refine Lk.mpr fun q=>?_
  have e:=(X _ _ ho).symm.trans ((Value.ref.inj (beq_iff_eq.mp q)).symm ▸ htp)
  cases e
end
def jb (e C:Addr):HO:=.ext fun h=>iS h e C
theorem sX {P:Program}{w:World}{H:Hp}{h:Heap}{e C:Addr}(ok:di P w H h)(he:H e=some (jb e C)):iS h e C:=(show bN P w H h e (jb e C) from ok e _ he).1
theorem ED {P:Program}{w:World}{H:Hp}{h:Heap}{e C:Addr}(q:iS h e C):bN P w H h e (jb e C) :=
 ⟨q,(let ⟨o,h1,_⟩:=q;⟨o,h1⟩),fun _ _ ⟨o,h1,h2⟩ k=>⟨o,k o h1,h2⟩⟩
inductive HS (K:IC) (xs:List V) (H:Hp) (Q:VK):Prop
 | own (e C D:Addr) (b:Bool) (_:xs=[.ref e,.ref D]) (_:H e=some (jb e C)) (_:kf K C) (_:kitOne K (.ref C) (.ref D)=some b) (_:Q (.bl b) H)
 | bi (e C:Addr) (T:String) (b:Bool) (_:xs=[.ref e,.ty T]) (_:H e=some (jb e C)) (_:kf K C) (_:kitOne K (.ref C) (.type T)=some b) (_:Q (.bl b) H)
 | tup (e C tp:Addr) (cs:List Addr) (b:Bool) (_:xs=[.ref e,.ref tp]) (_:H e=some (jb e C)) (_:kf K C) (_:H tp=some (.tup (cs.map V.ref))) (_:kitAny K (.ref C) (cs.map Value.ref)=some b) (_:Q (.bl b) H)
section
variable {X:Cx}
theorem uB:∀{cs:List Addr} {us:List Value},Vals (cs.map V.ref) us->us=cs.map Value.ref
 | [],_,r=>by cases r;rfl
 | c::cs,_,.cons h t=>by rw [uB t,show _=Value.ref c from h];rfl
theorem qc:dU X (.builtin "isinstance") (HS X.K):=by
 intro pins s IA H vs us Q I rv h
 cases h with
 | own e C D b hv he T hk q =>
  subst hv
  obtain⟨u,w',rfl,ru,rw'⟩:=vals2 rv
  cases (show u=Value.ref e from ru)
  cases (show w' = Value.ref D from rw')
  exact kia_one (p9 T) I.fY (sX I.aN he) hk (fun z=>nomatch z) fun tk=>⟨.bl b,H,I.tok tk,rfl,q⟩
 | bi e C T' b hv he T hk q =>
  subst hv
  obtain⟨u,w',rfl,ru,rw'⟩:=vals2 rv
  cases (show u=Value.ref e from ru)
  cases (show w' = Value.type T' from rw')
  exact kia_one (p9 T) I.fY (sX I.aN he) hk (fun z=>nomatch z) fun tk=>⟨.bl b,H,I.tok tk,rfl,q⟩
 | tup e C tp cs b hv he T ht hk q =>
  subst hv
  obtain⟨u,w',rfl,ru,rw'⟩:=vals2 rv
  cases (show u=Value.ref e from ru)
  cases (show w' = Value.ref tp from rw')
  obtain⟨_,its,r,o,h1,h2,n,h3,h4⟩:=(show bN X.prog X.w H s.heap tp (.tup (cs.map V.ref)) from I.aN tp _ ht)
  obtain⟨oc,od,odt,osl⟩:=o
  cases (show oc=_ from h2)
  cases (show odt=_ from h3)
  have hr:=uB r
  subst hr
  exact kia_tup (p9 T) I.fY (sX I.aN he) h1 hk (fun z=>nomatch z) fun tk=>⟨.bl b,H,I.tok tk,rfl,q⟩
end
section
variable {P:Program}{w:World}{H H':Hp}{h h':Heap}{a:Addr}{o:HO}
theorem bN.get (x:bN P w H h a o):∃u,h.get? a=some u:=by
 cases o with
 | lst xs=>obtain⟨_,_,_,_,e⟩:=x;exact⟨_,e⟩
 | tup xs=>obtain⟨_,_,_,o,e,_⟩:=x;exact⟨_,e⟩
 | dK kvs=>obtain⟨_,_,_,_,o,_,_,e,_⟩:=x;exact⟨_,e⟩
 | dT kvs=>obtain⟨_,_,_,_,o,_,_,e,_⟩:=x;exact⟨_,e⟩
 | set S n=>obtain⟨o,_,_,_,e,_⟩:=x;exact⟨_,e⟩
 | ins C dx fs=>obtain⟨_,_,_,e,_⟩:=x;exact⟨_,e⟩
 | own y=>obtain⟨_,e⟩:=x;exact⟨_,e⟩
 | xd fs=>obtain⟨_,⟨_,_,_,e,_⟩,_⟩:=x;exact⟨_,e⟩
 | CW lo hi=>obtain⟨_,_,_,e⟩:=x;exact⟨_,e⟩
 | mL ob u=>obtain⟨e,_⟩:=x;exact⟨_,e⟩
 | tI ps=>exact⟨_,(show h.get? a=some _ from x)⟩
 | met f y=>exact⟨_,(show h.get? a=some _ from x)⟩
 | ext φ=>obtain⟨_,⟨u,e⟩,_⟩:=x;exact⟨u,e⟩
theorem di.j0 (x:di P w H h)(k:∀b u v,H b=some v->h.get? b=some u->h'.get? b=some u):di P w H h':=fun a o e =>
 (x a o e).lh (fun b u hb q=>by
  rcases hb with rfl | hb
  ·exact k _ u _ e q
  ·exact k b u _ hb q) (fun _ q=>q) fun _ _ q=>q
end
structure Iv (outer:List Env) (old:Heap) (H':Hp) (ea:Addr) (cls:Value) (h:Heap):Prop where
 bg:H' ea=none
 new:old.get? ea=none
 Ha:∃B a0,Heap.FlyingW B outer ea cls a0 h/\∀b o,h.get? b=some o->((∃v,H' b=some v)\/∃u,old.get? b=some u)->b∉cA outer->B.get? b=some o
inductive yk (P:Program) (w:World) (outer:List Env) (H:Hp) (s:Shared) (E:XK) (e:Value) (s':Shared):Prop
 | mk (ea:Addr) (cls:Value) (H':Hp) (_:e=.ref ea) (_:s'.os=s.os) (_:AllBare s'.gens) (_:Un (cA outer) [] H H' s.heap s'.heap) (_:di P w H' s'.heap) (_:Iv outer s.heap H' ea cls s'.heap) (_:E cls none H')
abbrev fD (P:Program)(w:World):mz:=yk P w
section
variable {X:Cx}{pins:List (Addr×Obj)}{IA : St}{H H':Hp}{s s':Shared}
theorem fK {env:Env}{outer:List Env}{L:Addr}(hf:env.frame=some L){b:Addr}:b∈cA (env::outer)↔b=L\/b∈cA outer:=by
 unfold cA
 rw [JW,hf]
 exact IE
theorem GR {l:List Env}:∀env∈l,∀b,env.frame=some b->b∈cA l:=fun env he b hb=>KC.mpr ⟨env,he,hb⟩
theorem wo {outer:List Env}{h0 h1 h2:Heap}{ea:Addr}{cls a0:Value}{B:Heap}{l:List Env}(un:Un (cA outer) [] H H' h0 h1)
  (kp:∀b o,h1.get? b=some o->b∉cA l->((∃v,H' b=some v)\/∃u,h0.get? b=some u)->h2.get? b=some o)
  (sl:∀b o,h1.get? b=some o->b∈cA l->∃sl,h2.get? b=some { o with slots:=sl })
  (hl:∀b∈cA l,b∈cA outer\/h0.get? b=none) (hs:∀b∈cA outer,b∈cA l):Un (cA outer) [] H H' h0 h2 where
 keep:=fun b o q n hb hx=>kp b o (un.keep b o q n hb hx) (fun z=>by
  rcases hl b z with y | y
  ·exact hb y
  ·rw [q] at y;cases y) (.inr ⟨o,q⟩)
 slot:=fun b o q n hb hx=>by
  obtain⟨s1,e1⟩:=un.slot b o q n hb hx
  obtain⟨s2,e2⟩:=sl b _ e1 (hs b hb)
  exact⟨s2,e2⟩
 free:=un.free
 there:=fun b o q hx=>by
  obtain⟨o',e1⟩:=un.there b o q hx
  by_cases z:b∈cA l
  ·obtain⟨s2,e2⟩:=sl b _ e1 z
   exact⟨_,e2⟩
  ·exact⟨_,kp b o' e1 z (.inr ⟨o,q⟩)⟩
 av:=un.av
 gH:=un.gH
 hR:=un.hR
end
section
variable {P:Program}{w:World}{K:IC}{mg:Str->Option Value}{base:Heap}{N:List Str}{qual:Str}{scope:Scope}{f:Addr}{cd:Value}{A:Around}{outer:List Env}{s s2:Shared}{H H1:Hp}{E:XK}{pins:List (Addr×Obj)}{IA : St}
theorem nS (I:Inv (e7 (fD P w) P w K mg base N qual scope f cd A outer s H E) pins IA H1 s2){b:Addr}{u:Obj}(h:s.heap.get? b=some u):b≠s.heap.objs.size:=IL (IG h)
theorem zg (I:Inv (e7 (fD P w) P w K mg base N qual scope f cd A outer s H E) pins IA H1 s2){h':Heap}{e:Addr}{cls:Value}{args:List Value}(hx:Heap.MadeExcOf s2.heap h' e cls args)(q:E cls none H1) :
  (e7 (fD P w) P w K mg base N qual scope f cd A outer s H E).xe (.ref e) { s2 with heap:=h' }:=by
 have hst:=I.stack
 show wpAny (model P w) (A.deeper (envOfC qual scope s.heap.objs.size f cd)) (leaving (envOfC qual scope s.heap.objs.size f cd) (.ref e)) (fun _ s''=>yk P w outer H s E (.ref e) s'') (fun e' s''=>yk P w outer H s E e' s'') _
 have fL:(envOfC qual scope s.heap.objs.size f cd).frame=some s.heap.objs.size:=rfl
 have hstk:s2.heap.FunFrames base (envOfC qual scope s.heap.objs.size f cd::outer):=hst
 have free:∀b∈cA (envOfC qual scope s.heap.objs.size f cd::outer),H1 b=none:=I.ky
 refine wpAny_leaves_madeW (base:=hideAll s2.heap (cA (envOfC qual scope s.heap.objs.size f cd::outer))) (outer:=outer) I.ok.frames fL (fun b o q=>of_hideAll _ q) (funFrames_hide hstk GR) hx fun h'' t hfl htup ht hup=>?_
 have kp:∀b o,s2.heap.get? b=some o->b∉cA (envOfC qual scope s.heap.objs.size f cd::outer)->h''.get? b=some o:=fun b o e1 e2=>hfl.1 b o (hideAll_get _ e1 e2)
 have sl:∀b o,s2.heap.get? b=some o->b∈cA (envOfC qual scope s.heap.objs.size f cd::outer)->∃sl,h''.get? b=some { o with slots:=sl }:=fun b o e1 e2=>by
  obtain⟨_,o',ho,hn⟩:=hstk.mem e2
  rw [e1] at ho;cases ho
  exact hup b o (hx.keeps b o e1) hn
 have ub:Un (cA outer) [] H H1 s.heap s2.heap:=I.base
 have nT:∀b v,H1 b=some v->b∉cA (envOfC qual scope s.heap.objs.size f cd::outer):=fun b v e1 e2=>by rw [free b e2] at e1;cases e1
 refine⟨e,cls,H1,rfl,I.os,I.bare,wo (ea:=e) (cls:=cls) (a0:=.none) (B:=h') (l:=envOfC qual scope s.heap.objs.size f cd::outer) ub (fun b o e1 e2 _=>kp b o e1 e2) sl (fun b hb=>?_) (fun b hb=>(fK fL).mpr (.inr hb)),?_,⟨?_,?_,_,_,hfl,fun b o e1 e2 e3=>?_⟩,q⟩
 ·rcases (fK fL).mp hb with z | z
  ·right;rw [z];exact Lb (IF _)
  ·exact .inl z
 ·exact di.j0 I.aN fun b u v e1 e2=>kp b u e2 (nT b v e1)
 ·cases z:H1 e with
  | none=>rfl
  | some v =>
   obtain⟨u,hu⟩:=(I.aN e v z).get
   have:=hx.new
   rw [hu] at this;cases this
 ·cases z:s.heap.get? e with
  | none=>rfl
  | some u =>
   obtain⟨o',ho⟩:=ub.there e u z (by simp)
   have:=hx.new
   rw [ho] at this;cases this
 ·have nf:b∉cA (envOfC qual scope s.heap.objs.size f cd::outer):=fun z=>by
   rcases (fK fL).mp z with y | y
   ·rcases e2 with ⟨v,hv⟩ | ⟨u,hu⟩
    ·exact nT b v hv z
    ·exact nS I hu y
   ·exact e3 y
  obtain⟨o2,ho2⟩:∃o2,s2.heap.get? b=some o2:=by
   rcases e2 with ⟨v,hv⟩ | ⟨u,hu⟩
   ·exact (I.aN b v hv).get
   ·exact ub.there b u hu (by simp)
  have:=kp b o2 ho2 nf
  rw [e1] at this;cases this
  exact hideAll_get _ ho2 nf
theorem yl:Passes (fD P w) (e7 (fD P w) P w K mg base N qual scope f cd A outer s H E) E:=by
 intro pins IA H1 s2 e s3 I hc
 obtain⟨ea,cls,H',rfl,hos,hb,un,aN,Ha,q⟩:=hc
 obtain⟨hn,hnew,B,a0,hfl,hk⟩:=Ha
 have hst:=I.stack
 have fL:(envOfC qual scope s.heap.objs.size f cd).frame=some s.heap.objs.size:=rfl
 have hfl:Heap.FlyingW B (envOfC qual scope s.heap.objs.size f cd::outer) ea cls a0 s3.heap:=hfl
 have hk:∀b o,s3.heap.get? b=some o->((∃v,H' b=some v)\/∃u,s2.heap.get? b=some u)->b∉cA (envOfC qual scope s.heap.objs.size f cd::outer)->B.get? b=some o:=hk
 have un:Un (cA (envOfC qual scope s.heap.objs.size f cd::outer)) [] H1 H' s2.heap s3.heap:=un
 have ub:Un (cA outer) [] H H1 s.heap s2.heap:=I.base
 have hstk:s2.heap.FunFrames base (envOfC qual scope s.heap.objs.size f cd::outer):=hst
 have free:∀b∈cA (envOfC qual scope s.heap.objs.size f cd::outer),H1 b=none:=I.ky
 have free':∀b∈cA (envOfC qual scope s.heap.objs.size f cd::outer),H' b=none:=fun b hb=>by
  obtain⟨_,o,ho,_⟩:=hstk.mem hb
  exact un.free b o ho (free b hb) (by simp)
 show wpAny (model P w) (A.deeper (envOfC qual scope s.heap.objs.size f cd)) (leaving (envOfC qual scope s.heap.objs.size f cd) (.ref ea)) (fun _ s''=>yk P w outer H s E (.ref ea) s'') (fun e' s''=>yk P w outer H s E e' s'') _
 refine wpAny_leaves_onW (outer:=outer) I.ok.frames fL hfl fun h'' hfl' hup=>?_
 have kp:∀b o,s3.heap.get? b=some o->b∉cA (envOfC qual scope s.heap.objs.size f cd::outer)->((∃v,H' b=some v)\/∃u,s2.heap.get? b=some u)->h''.get? b=some o:=fun b o e1 e2 e3=>hfl'.1 b o (hk b o e1 e3 e2)
 have sl:∀b o,s3.heap.get? b=some o->b∈cA (envOfC qual scope s.heap.objs.size f cd::outer)->∃sl,h''.get? b=some { o with slots:=sl }:=fun b o e1 e2=>by
  obtain⟨_,o',ho,hn⟩:=hfl.2.2.1.mem e2
  rw [e1] at ho;cases ho
  exact hup b o e1 hn
 have nT:∀b v,H' b=some v->b∉cA (envOfC qual scope s.heap.objs.size f cd::outer):=fun b v e1 e2=>by rw [free' b e2] at e1;cases e1
 have old:∀b u,s.heap.get? b=some u->∃u,s2.heap.get? b=some u:=fun b u hu=>ub.there b u hu (by simp)
 have up:Un (cA outer) [] H H' s.heap s3.heap:=by
  refine⟨fun b o q n hb hx=>?_,fun b o q n hb hx=>?_,fun b o q n hx=>?_,fun b o q hx=>?_,fun b xs e=>un.av b xs (ub.av b xs e),fun b o xs e=>un.gH b o xs (ub.gH b o xs e),fun b ps e=>?_⟩
  ·exact un.keep b o (ub.keep b o q n hb hx) (ub.free b o q n hx) (fun z=>by
    rcases (fK fL).mp z with y | y
    ·exact nS I q y
    ·exact hb y) hx
  ·obtain⟨s1,e1⟩:=ub.slot b o q n hb hx
   obtain⟨s4,e2⟩:=un.slot b _ e1 (ub.free b o q n hx) ((fK fL).mpr (.inr hb)) hx
   exact⟨s4,e2⟩
  ·obtain⟨o',e1⟩:=ub.there b o q hx
   exact un.free b o' e1 (ub.free b o q n hx) hx
  ·obtain⟨o',e1⟩:=ub.there b o q hx
   exact un.there b o' e1 hx
  ·obtain⟨m1,e1⟩:=ub.hR b ps e
   obtain⟨m2,e2⟩:=un.hR b _ e1
   exact⟨m1++m2,by rw [e2,Array.append_assoc]⟩
 refine⟨ea,cls,H',rfl,hos.trans I.os,hb,wo (ea:=ea) (cls:=cls) (a0:=.none) (B:=B) (l:=envOfC qual scope s.heap.objs.size f cd::outer) up (fun b o e1 e2 e3=>kp b o e1 e2 (e3.imp id fun ⟨u,hu⟩=>old b u hu)) sl (fun b hb=>?_) (fun b hb=>(fK fL).mpr (.inr hb)),?_,⟨hn,?_,B,a0,hfl',fun b o e1 e2 e3=>?_⟩,q⟩
 ·rcases (fK fL).mp hb with z | z
  ·right;rw [z];exact Lb (IF _)
  ·exact .inl z
 ·exact di.j0 aN fun b u v e1 e2=>kp b u e2 (nT b v e1) (.inl ⟨v,e1⟩)
 ·cases z:s.heap.get? ea with
  | none=>rfl
  | some u =>
   obtain⟨o',ho⟩:=old ea u z
   rw [hnew] at ho;cases ho
 ·have nf:b∉cA (envOfC qual scope s.heap.objs.size f cd::outer):=fun z=>by
   rcases (fK fL).mp z with y | y
   ·rcases e2 with ⟨v,hv⟩ | ⟨u,hu⟩
    ·exact nT b v hv z
    ·exact nS I hu y
   ·exact e3 y
  have e2':(∃v,H' b=some v)\/∃u,s2.heap.get? b=some u:=e2.imp id fun ⟨u,hu⟩=>old b u hu
  obtain⟨o2,ho2⟩:∃o2,s3.heap.get? b=some o2:=by
   rcases e2' with ⟨v,hv⟩ | ⟨u,hu⟩
   ·exact (aN b v hv).get
   ·exact un.there b u hu (by simp)
  have z:=kp b o2 ho2 nf e2'
  rw [e1] at z;cases z
  exact hk b o ho2 e2' nf
end
theorem EE {K:Frag}{h:Heap}{C:Addr}{bmB:List Value}{newId:String}(X:K.In h)(q:excIn K C bmB newId=true) :
  ∃bm N nm qn bs hdct sn sub ab col dd k0 k1 k2 k3 k5 mN,h.get? C=some (excClassObj nm qn C N bs bm hdct sn sub ab col dd k0 k1 k2 k3 k5 newId)/\h.Ns N mN/\mN "__init__" = none/\OwnTail h bmB bm:=by
 unfold excIn at q
 split at q
 ·rename_i dd cd sl ho
  split at q
  ·rename_i C' bm k0 k1 k2 k3 n k5 hm hs
   simp only [Jp,beq_iff_eq,Bool.not_eq_true'] at q
   obtain⟨⟨⟨⟨⟨e1,e2⟩,hdel⟩,ht⟩,aN⟩,hni⟩:=q
   subst e1 e2
   obtain⟨nm,bs,mro,ns,qn,hd,sn,sub,ab,col,del⟩:=cd
   dsimp only at hm hdel aN hni
   subst hm hdel
   obtain⟨l⟩:=sl
   simp only at hs
   subst hs
   exact⟨bm,ns,nm,qn,bs,hd,sn,sub,ab,col,dd,k0,k1,k2,k3,k5,_,X _ _ ho,.of_isNs (isNs_of_in X aN),nsMap_none_of_in X aN hni,tail_of_in X ht⟩
  ·cases q
 ·cases q
section
variable {X:Cx}
inductive Iw (te:TE) (IA : St) (H:Hp) (Q:VK):Prop
 | mk (_:te IA H fun x H1=>∃i:Int,x=.int i/\i.natAbs<10 ^ 30/\∀y:Str,y.length<=1000->Q (.str y) H1)
theorem EF {i:Int}(h:i.natAbs<10 ^ 30):(Str.ofString (toString i)).length<=31:=by
 have e:=int_text_length_le10 (k:=30) (by decide) h
 have:(Str.ofString (toString i)).length=(toString i).length:=PySem.ofString_length _
 omega
theorem EG {i:Int}(h:i.natAbs<10 ^ 30):i.natAbs.log2<1920:=by
 by_cases z:i.natAbs=0
 ·rw [z];decide
 ·exact (Nat.log2_lt z).mpr (Kp h (by decide +kernel))
theorem AY {a b:Str}{ka kb:Nat}{pa pb pe pos:Pos}{e:Expr}{te:TE}(he:PE X e te)(ha:a.length<=400:=by decide +kernel)(hb:b.length<=400:=by decide +kernel) :
  PE X (.JoinedStr [.Constant (.str a) ka pa,.FormattedValue e (-1) none pe,.Constant (.str b) kb pb] pos) (Iw te):=by
 intro pins s IA H Q I h
 obtain⟨h⟩:=h
 have hz:1000<=sizeLine:=by decide
 refine JoinedStr_many (joinParts_cons (Calls.Constant_str ⟨?_,?_⟩))
 ·rw [strLen_append];show 0+_<=_;omega
 refine joinParts_cons (FormattedValue_plain (aX (he pins _ IA H _ (I.tok _) h) fun u s1 ⟨x,H1,I1,rx,i,hi,hl,q⟩=>?_))
 subst hi
 obtain⟨t,rfl⟩:=(show ∃t,u=Value.int i t from rx)
 have hn:=EF hl
 refine formatField_int_small (EG hl) ⟨?_,?_⟩
 ·rw [strLen_append,strLen_append];show 0+_+(Str.ofString (toString i)).length<=_;omega
 refine joinParts_cons (Calls.Constant_str ⟨?_,?_⟩)
 ·rw [strLen_append,strLen_append,strLen_append];show 0+_+(Str.ofString (toString i)).length+_<=_;omega
 refine joinParts_nil ⟨.str _,H1,(I1.tok _),⟨_,rfl⟩,q _ ?_⟩ ?_
 ·rw [strLen_append,strLen_append,strLen_append];show 0+_+(Str.ofString (toString i)).length+_<=_;omega
 ·rw [strLen_append,strLen_append,strLen_append];show 0+_+(Str.ofString (toString i)).length+_<=_;omega
end
section
variable {P:Program}{w:World}{K:IC}{mg:Str->Option Value}{base:Heap}{N:List Str}{qual:Str}{scope:Scope}{f:Addr}{cd:Value}{A:Around}{outer:List Env}{s:Shared}{H:Hp}{E:XK}
inductive F9 (C:Addr) (E:XK) (t:TA) (D:Ends) (IA : St) (H:Hp):Prop
 | mk (_:t IA H fun vs H1=>vs.length<=1000/\E (.ref C) none H1)
theorem wq {x:Str}{C:Addr}{e:Expr}{es:List Expr}{t:TA}{np cpos pos:Pos}(T:kf K C)(hm:mg x=some (.ref C))
  (ha:PA (e7 (fD P w) P w K mg base N qual scope f cd A outer s H E) (e::es) t)
  (hg:Gl (e7 (fD P w) P w K mg base N qual scope f cd A outer s H E) x:=by rfl) (hdb:(x == ("__debug__" : Str))=false:=by decide)
  (he:starEach (e::es) (e7 (fD P w) P w K mg base N qual scope f cd A outer s H E).env=(false,eval e (e7 (fD P w) P w K mg base N qual scope f cd A outer s H E).env)::starEach es (e7 (fD P w) P w K mg base N qual scope f cd A outer s H E).env:=by rfl)
  (hpl:(backTo cpos (starEach es (e7 (fD P w) P w K mg base N qual scope f cd A outer s H E).env)).any (·.1)=false:=by rfl) :
  PS (e7 (fD P w) P w K mg base N qual scope f cd A outer s H E) (.Raise (some (.Call (.Name x np) (e::es) [] cpos)) none pos) (F9 C E t):=by
 intro pins s1 IA H1 D I h
 obtain⟨h⟩:=h
 obtain⟨bm,N',nm,qn,bs,hdct,sn,sub,ab,col,dd,k0,k1,k2,k3,k5,mN,hC,hN,hni,T1⟩:=EE (h:=base) I.ok.mod.jX T.ok
 refine wpAny_Raise_call_subU (C:=C) (N:=N') (nm:=nm) (q:=qn) (bs:=bs) (bm:=bm) (hdct:=hdct) (sn:=sn) (sub:=sub) (ab:=ab) (col:=col) (dd:=dd) (k0:=k0) (k1:=k1) (k2:=k2) (k3:=k3) (k5:=k5) (mN:=mN) PySem.F.excBase_ValueError PySem.F.excBase_ValueError.hasB PySem.F.excBase_ValueError (T1.hasType PySem.F.excBase_ValueError.hasBase) (I.ok.hd rfl) (by rw [he];show (false||_)=false;exact hpl) hni ?_
 refine kA I hg hm ⟨rfl,?_⟩ hdb
 have ha':=ha cpos pins s1 IA H1 _ I h
 rw [he] at ha' ⊢
 refine Calls.evalArgs_plain (aX ha' fun us s2 ⟨vs,H2,I2,r,hl,q⟩=>?_)
 have bk:∀b o,base.get? b=some o->s2.heap.get? b=some o:=I2.bk
 refine⟨rfl,?_,bk _ _ hC,hN.keeps bk,T1.keeps bk,fun h' e hx=>zg I2 hx q⟩
 show us.length<=sizeLine
 rw [<-r.length]
 exact IQ hl (by decide)
end
theorem aW.calm {P:Program}{w:World}{K:IC}{mg:Str->Option Value}{base:Heap}{k:Nat}{f:Addr}{fd:FuncData}{ps:List Str}{sp sp':Sp}(F:aW P w K mg base (fD P w) k f fd ps sp)(h:∀vs H Q E,sp' vs H Q E->sp vs H Q E0):aW P w K mg base bQ k f fd ps sp' :=
 ⟨fun vs H Q E q=>F.len vs H Q E0 (h _ _ _ _ q),fun A outer s H args us vs Q E hr he hb hv hs=>LB (F.run A outer s H args us vs Q E0 hr he hb hv (h _ _ _ _ hs)) fun r s' h=>by
  cases r with
  | ok fl=>cases fl <;> exact h
  | error e=>obtain⟨_,_,_,_,_,_,_,_,_,z⟩:=h;exact z.elim⟩
structure wu (P:Program) (w:World) (K:IC) (mg:Str->Option Value) (base:Heap) (x:Str) (k:Nat) (ps:List Str) (sp:Sp):Prop where
 ex:∃f fd,aW P w K mg base (fD P w) k f fd ps sp/\mg x=some (.ref f)/\JC K (.ref f)=true/\Binds K fd ps []
structure rP (P:Program) (w:World) (K:IC) (mg:Str->Option Value) (base:Heap) (C:Addr) (x:Str) (k:Nat) (ps:List Str) (sp:Sp):Prop where
 ex:∃f fd,aW P w K mg base (fD P w) k f fd ps sp/\Mk K C f/\mg x=some (.ref C)/\Binds K fd ps []
theorem wu.calm {P:Program}{w:World}{K:IC}{mg:Str->Option Value}{base:Heap}{x:Str}{k:Nat}{ps:List Str}{sp sp':Sp}(o:wu P w K mg base x k ps sp)(h:∀vs H Q E,sp' vs H Q E->sp vs H Q E0):Own P w K mg base x k ps sp' :=
 let ⟨f,fd,F,a,b,c⟩:=o.ex;⟨f,fd,F.calm h,a,b,c⟩
theorem rP.calm {P:Program}{w:World}{K:IC}{mg:Str->Option Value}{base:Heap}{C:Addr}{x:Str}{k:Nat}{ps:List Str}{sp sp':Sp}(o:rP P w K mg base C x k ps sp)(h:∀vs H Q E,sp' vs H Q E->sp vs H Q E0):vz P w K mg base C x k ps sp' :=
 let ⟨f,fd,F,a,b,c⟩:=o.ex;⟨f,fd,F.calm h,a,b,c⟩
section
variable {X:Cx}{C:Addr}{x:Str}{k m:Nat}{ps:List Str}{sp:Sp}{e:Expr}{es:List Expr}{t:TA}{p pos:Pos}{E:XK}
theorem AZ (o:wu X.prog X.w X.K X.mg X.base x k ps sp)(hx:Passes (fD X.prog X.w) X E)(hr:cG m X.A)(ha:PA X (e::es) t)(hk:k<=m:=by decide)(hg:Gl X x:=by rfl)(hdb:(x == ("__debug__" : Str))=false:=by decide)
  (he:starEach (e::es) X.env=(false,eval e X.env)::starEach es X.env:=by rfl) (hpl:(backTo pos (starEach es X.env)).any (·.1)=false:=by rfl):PE X (.Call (.Name x p) (e::es) [] pos) (uU sp [] E t):=by
 obtain⟨f,fd,F,hm,hk',hb⟩:=o.ex
 exact xn F (hr.mono hk) hg hm hk' hb .nil hx ha hdb he hpl
theorem EH (o:rP X.prog X.w X.K X.mg X.base C x k ps sp)(hx:Passes (fD X.prog X.w) X E)(hr:cG m X.A)(ha:PA X (e::es) t)(hk:k+1<=m:=by decide)(hg:Gl X x:=by rfl)(hdb:(x == ("__debug__" : Str))=false:=by decide)
  (he:starEach (e::es) X.env=(false,eval e X.env)::starEach es X.env:=by rfl) (hpl:(backTo pos (starEach es X.env)).any (·.1)=false:=by rfl):PE X (.Call (.Name x p) (e::es) [] pos) (yC C sp [] E t):=by
 obtain⟨f,fd,F,M,hm,hb⟩:=o.ex
 exact xo M F (hr.mono hk) hg hm hb .nil hx ha hdb he hpl
end
section
variable {P:Program}{w:World}{K:IC}{mg:Str->Option Value}{base:Heap}
theorem bS.Hb {x qual:Str}{st:Stmt}{f:Addr}{fd:FuncData}{N ps:List Str}{k:Nat}{sp:Sp}(F:bS K x qual st f fd)(S:aM N ps (au st))(len:∀vs H Q E,sp vs H Q E->vs.length=ps.length)
  (hbody:∀(cdv:Value) (A:Around) (outer:List Env) (s:Shared) (H:Hp) (vs:List V) (Q:VK) (E:XK),cG k (A.deeper (envOfC qual (au st) s.heap.objs.size f cdv))->sp vs H Q E ->
   ∃t,fZ (e7 (fD P w) P w K mg base N qual (au st) f cdv A outer s H E) (cZ st) t/\t { nx:=fun _ H'=>Q .bg H',rt:=Q } (start N vs) H):aW P w K mg base (fD P w) (k+1) f fd ps sp:=by
 obtain⟨oc,od,kV,doc,pm,an,cdv,ct,osl,rfl,lk,hcd⟩:=F.ex
 exact yD lk hcd S len fun A outer s H vs Q E hr hsp=>hbody cdv A outer s H vs Q E hr hsp
end
section
variable {X:Cx}
def Cx.tries (X:Cx)(pn:List (Addr×Obj))(xe:Value->Shared->Prop):Cx:={ X with pn:=pn,xe:=xe }
def Cx.fM (X:Cx)(e:Addr):Cx:={ X with A:=X.A.mark (some (.ref e)),calm:=false,xe:=fun _ _=>False }
theorem Cx.Ok.tries {pn:List (Addr×Obj)}{xe:Value->Shared->Prop}(ok:X.Ok):(X.tries pn xe).Ok :=
 ⟨ok.mod,ok.kind,ok.glob,ok.blt,ok.above,ok.inj,ok.has,ok.tJ,ok.hd,ok.frames,ok.va,ok.zA,ok.bs,ok.my,ok.mO,ok.pI,ok.gI,ok.oV⟩
theorem Cx.Ok.hJ {pn:List (Addr×Obj)}{xe:Value->Shared->Prop}(ok:(X.tries pn xe).Ok):X.Ok :=
 ⟨ok.mod,ok.kind,ok.glob,ok.blt,ok.above,ok.inj,ok.has,ok.tJ,ok.hd,ok.frames,ok.va,ok.zA,ok.bs,ok.my,ok.mO,ok.pI,ok.gI,ok.oV⟩
theorem Cx.Ok.fM {e:Addr}(ok:X.Ok):(X.fM e).Ok :=
 ⟨ok.mod,ok.kind,ok.glob,ok.blt,ok.above,ok.inj,ok.has,ok.tJ,(fun z=>nomatch z),ok.frames,ok.va,ok.zA,ok.bs,ok.my,ok.mO,ok.pI,ok.gI,ok.oV⟩
variable {pins:List (Addr×Obj)}{IA : St}{H:Hp}{s:Shared}
theorem Inv.tries {xe:Value->Shared->Prop}(I:Inv X pins IA H s):Inv (X.tries (X.pn++pins) xe) [] IA H s :=
 ⟨I.ok.tries,I.os,I.bare,I.base,I.loc,I.cell,I.free,I.dH,fun p hp=>I.pin p (by rw [JP] at hp;exact hp),I.aN,I.len⟩
theorem Inv.hJ {xe:Value->Shared->Prop}{pins':List (Addr×Obj)}(I:Inv (X.tries (X.pn++pins) xe) pins' IA H s):Inv X pins IA H s :=
 ⟨I.ok.hJ,I.os,I.bare,I.base,I.loc,I.cell,I.free,I.dH,fun p hp=>I.pin p (Jz _ hp),I.aN,I.len⟩
theorem Inv.fM {e:Addr}(I:Inv X pins IA H s):Inv (X.fM e) pins IA H s:=⟨I.ok.fM,I.os,I.bare,I.base,I.loc,I.cell,I.free,I.dH,I.pin,I.aN,I.len⟩
theorem Inv.uncaught {e:Addr}(ok:X.Ok)(I:Inv (X.fM e) pins IA H s):Inv X pins IA H s:=⟨ok,I.os,I.bare,I.base,I.loc,I.cell,I.free,I.dH,I.pin,I.aN,I.len⟩
theorem wW {M:Model} {A:Around} {E:Value->Shared->Prop} {K:Frag} {e CE C:Addr} {Q:Bool->Shared->Prop} (KI:K.In s.heap) (I:iS s.heap e CE) (hb:mroIn K C (.type "BaseException")=some true) (ht:typeIn K (.ref C)=some (.type "type")) (hs:mroIn K CE (.ref C)=some true) (hq:Q true s) :
  wpAny M A (excMatches (.ref e) (.ref C)) Q E s:=by
 have T0:=I.ty (M:=M)
 have T1:=looks_mroIn (M:=M) KI hb
 have T2:=looks_mroIn (M:=M) KI hs
 have T3:=looks_typeIn (M:=M) KI ht
 have f:=tc_notTuple
 obtain⟨cd,hc,_⟩:=Option.bind_eq_some_iff.mp hb
 have lk:∃c d sl,K.lookup C=some ⟨c,d,.cls cd,sl⟩:=by
  unfold clsIn at hc
  split at hc
  ·rename_i ho;cases hc;exact⟨_,_,_,ho⟩
  ·cases hc
 obtain⟨c',d',sl',ho⟩:=lk
 have hC:=KI _ _ ho
 obtain⟨hh,g,d,t,os⟩:=s
 unfold excMatches
 repeat (any_goals (first | assumption | (with_reducible refine T0.at ?_) | (with_reducible refine T1.at ?_) | (with_reducible refine T2.at ?_) | (with_reducible refine T3.at ?_) | (with_reducible refine wpAny_loadPart_at hC ?_) | wp_step))
theorem Inv.GS {e:Addr}{o:HO}(I:Inv X pins IA H s)(n0:X.dE.heap.get? e=none)(nL:e≠X.env.locals)(nC:∀x c,X.env.cells.lookup x=some c->c≠e)(nP:∀p∈X.pn++pins,p.1≠e)(he:H e=none)(new:bN X.prog X.w (upd H e o) s.heap e o):Inv X pins IA (upd H e o) s:=by
 have hb:∀b u,H b=some u->(upd H e o) b=some u:=fun b u q=>by rw [ao (ar q he)];exact q
 refine⟨I.ok,I.os,I.bare,⟨I.base.keep,I.base.slot,fun b u q n hx=>?_,I.base.there,fun b xs q=>hb _ _ (I.base.av b xs q),fun b u xs q=>hb _ _ (I.base.gH b u xs q),fun b ps q=>?_⟩,I.loc,I.cell,?_,fun x c q=>?_,fun p hp=>?_,fun b u q=>?_,I.len⟩
 ·rw [ao (fun z=>by rw [z,n0] at q;cases q)];exact I.base.free b u q n hx
 ·obtain⟨m,q'⟩:=I.base.hR b ps q
  exact⟨m,hb _ _ q'⟩
 ·rw [ao (Ne.symm nL)];exact I.free
 ·rw [ao (nC x c q)];exact I.dH x c q
 ·obtain⟨a,b,c⟩:=I.pin p hp
  exact⟨a,by rw [ao (nP p hp)];exact b,c⟩
 ·by_cases z:b=e
  ·subst z;rw [aa] at q;cases q;exact new
  ·rw [ao z] at q
   exact (I.aN b u q).lh (fun _ _ _ q=>q) (fun c q=>hb _ _ q) fun c xs q=>hb _ _ q
theorem j7 {M:Model}{A:Around}{E:Value->Shared->Prop}{i:Nat}{n:Str}{pos:Pos}{Q:Unit->Shared->Prop}(I:Inv X pins IA H s)(hN:X.N.Nodup)(hi:X.N[i]?=some n)(hl:X.env.kindOf n=some .local)
  (h:∀s',Inv X pins (IA.set i none) H s'->Q () s'):wpAny M A (do bindName X.env n .none;unbindBehindTheSuite X.env n pos) Q E s:=by
 obtain⟨m,hn,hl'⟩:=id I.loc
 have hcls:(X.env.scope.kind == .class||(X.env.scope.kind == .module&&X.env.locals != X.env.globals))=false:=by rw [I.ok.kind];rfl
 refine wpAny_nameGoes_keeps hl hn hcls fun h' v hn' hs=>h _ ?_
 have oldne:∀b o,X.dE.heap.get? b=some o->b≠X.env.locals:=fun b o e=>IL (Ji (IG e) I.ok.above)
 refine⟨I.ok,I.os,I.bare,⟨fun b o e n hb hx=>(hs.2 b (oldne b o e)).trans (I.base.keep b o e n hb hx),fun b o e n hb hx=>?_,I.base.free,fun b o e hx=>?_,I.base.av,I.base.gH,I.base.hR⟩,⟨_,hn',fun j y v' e1 e2 e3=>?_⟩,fun y c e=>?_,I.free,I.dH,fun p hp=>?_,fun b ob e=>?_,by simpa using I.len⟩
 ·obtain⟨sl,e1⟩:=I.base.slot b o e n hb hx
  exact⟨sl,(hs.2 b (oldne b o e)).trans e1⟩
 ·obtain⟨o',e1⟩:=I.base.there b o e hx
  exact⟨o',(hs.2 b (oldne b o e)).trans e1⟩
 ·by_cases hj:j=i
  ·subst hj
   have hlt:j<IA.length:=by rw [I.len];exact (IY.mp hi).1
   rw [Ky hlt] at e2
   cases e2
  ·rw [Lc (Ne.symm hj)] at e2
   obtain⟨u',r',q⟩:=hl' j y v' e1 e2 e3
   refine⟨u',r',?_⟩
   rcases q with ⟨k,e⟩ | ⟨k,c,e,z⟩
   ·refine .inl ⟨k,?_⟩
    have:y≠n:=fun e=>hj (pJ hN e1 (e ▸ hi))
    simp [this,e]
   ·exact .inr ⟨k,c,e,z.sameBut hs (I.qp y c e)⟩
 ·obtain⟨w',z⟩:=I.cell y c e
  exact⟨w',z.sameBut hs (I.qp y c e)⟩
 ·obtain⟨e,n,ne,nf,d⟩:=I.pin p hp
  exact⟨(hs.2 p.1 ne).trans e,n,ne,nf,d⟩
 ·have fr:=I.free
  refine (I.aN b ob e).lh (fun c w' hc q=>(hs.2 c ?_).trans q) (fun _ q=>q) fun _ _ q=>q
  rintro rfl
  rcases hc with rfl | hc
  ·rw [fr] at e;cases e
  ·rw [fr] at hc;cases hc
def sY (i:Nat)(D:Ends):Ends:={ nx:=fun IA H=>D.nx (IA.set i none) H,rt:=D.rt,bk:=fun IA H=>D.bk (IA.set i none) H,ct:=fun IA H=>D.ct (IA.set i none) H }
inductive HU (K:Frag) (N i:Nat) (C:Addr) (tb:List (Addr×Obj)->(Value->Shared->Prop)->XK->TS) (th:Addr->TS) (D:Ends) (IA : St) (H:Hp):Prop
 | mk (XD:XK) (_:∀pn xe,tb pn xe XD D IA H) (_:∀cls od H',XD cls od H'->∃CE,cls=.ref CE/\mroIn K CE (.ref C)=some true/\∀e,H' e=none->th e (sY i D) ((JR N none).set i (some (.ref e))) (upd H' e (jb e CE)))
theorem Ga {i:Nat} {n cn:Str} {body:List Stmt} {b₀ : Stmt} {suite:List Stmt} {tb:List (Addr×Obj)->(Value->Shared->Prop)->XK->TS} {th:Addr->TS} {np hp pos:Pos} {C:Addr} (hN:X.N.Nodup) (T:kf X.K C) (ht:typeIn X.K (.ref C)=some (.type "type")) (hm:X.mg cn=some (.ref C))
  (hb:∀pn xe E,Passes (fD X.prog X.w) (X.tries pn xe) E->fZ (X.tries pn xe) body (tb pn xe E)) (hh:∀e,fZ (X.fM e) (b₀::suite) (th e))
  (hst:X.stack=X.env::X.outer:=by rfl) (hf:X.env.frame=some X.env.locals:=by rfl) (hex:X.ex=[]:=by rfl) (hi:X.N[i]?=some n:=by rfl) (hl:X.env.kindOf n=some .local:=by rfl) (hg:Gl X cn:=by rfl) (hd:(cn == ("__debug__" : Str))=false:=by decide) :
  PS X (.Try body [.ExceptHandler (some (.Name cn np)) (some n) (b₀::suite) hp] [] [] pos) (HU X.K X.N.length i C tb th):=by
 intro pins s IA H D I h
 obtain⟨XD,h1,h2⟩:=h
 have B:=hb (X.pn++pins) (fun e s'=>∃pins' σ' H' s1,Inv (X.tries (X.pn++pins) fun _ _=>True) pins' σ' H' s1/\yk X.prog X.w X.stack H' s1 XD e s') XD (fun pins' σ' H' s1 e s' I' hc=>⟨pins',σ',H',s1,⟨I'.ok.hJ.tries,I'.os,I'.bare,I'.base,I'.loc,I'.cell,I'.free,I'.dH,I'.pin,I'.aN,I'.len⟩,hc⟩) [] s IA H D I.tries (h1 _ _)
 refine wpAny_Try_except (Lr B (fun f s1 z=>?_) fun e s1 z=>?_)
 ·cases f with
  | next =>
   obtain⟨σ',H',I',q⟩:=z
   exact Lq (show SP X pins D .next s1 from ⟨σ',H',I'.hJ,q⟩)
  | brk=>obtain⟨σ',H',I',q⟩:=z;exact⟨σ',H',I'.hJ,q⟩
  | cont=>obtain⟨σ',H',I',q⟩:=z;exact⟨σ',H',I'.hJ,q⟩
  | ret u=>obtain⟨v,σ',H',I',r,q⟩:=z;exact⟨v,σ',H',I'.hJ,r,q⟩
 obtain⟨pins',σ',H1,s0,I0,ea,cls,H2,rfl,hos,hbare,un,aN,⟨hn,hnew,Bs,a0,hfl,hk⟩,hXD⟩:=z
 obtain⟨CE,rfl,hsub,hth⟩:=h2 _ _ _ hXD
 have hth:=hth ea hn
 have hfr:X.A.frames=some (X.env::X.outer):=hst ▸ I.ok.frames
 have stk0:s0.heap.FunFrames X.base X.stack:=I0.stack
 have fr0:∀b∈cA X.stack,H1 b=none:=I0.ky
 have fr2:∀b∈cA X.stack,H2 b=none:=fun b hb=>by
  obtain⟨_,o,ho,_⟩:=stk0.mem hb
  exact un.free b o ho (fr0 b hb) (by simp)
 have nT:∀b v,H2 b=some v->b∉cA X.stack:=fun b v e1 e2=>by rw [fr2 b e2] at e1;cases e1
 have flyI:∀h6 a1,Heap.FlyingW Bs X.stack ea (.ref CE) a1 h6->s1.heap.UpToSlots h6->Inv X pins (JR X.N.length none) H2 { s1 with heap:=h6 }/\Inv X pins (JR X.N.length none) (upd H2 ea (jb ea CE)) { s1 with heap:=h6 }:=fun h6 a1 f6 up6=>by
  have kp:∀b o,s1.heap.get? b=some o->b∉cA X.stack->((∃v,H2 b=some v)\/∃u,s0.heap.get? b=some u)->h6.get? b=some o:=fun b o e1 e2 e3=>f6.1 b o (hk b o e1 e3 e2)
  have sl:∀b o,s1.heap.get? b=some o->b∈cA X.stack->∃sl,h6.get? b=some { o with slots:=sl }:=fun b o e1 e2=>by
   obtain⟨_,o',ho,hnf⟩:=hfl.2.2.1.mem e2
   rw [e1] at ho;cases ho
   exact up6 b o e1 hnf
  have un6:Un (cA X.stack) [] H1 H2 s0.heap h6:=wo (ea:=ea) (cls:=.ref CE) (a0:=.none) (B:=Bs) (l:=X.stack) un kp sl (fun b hb=>.inl hb) fun b hb=>hb
  have J:Inv (X.tries (X.pn++pins) fun _ _=>True) pins' σ' H2 { s1 with heap:=h6 }:=I0.CZ (s':={ s1 with heap:=h6 }) hos un6 (di.j0 aN fun b u v e1 e2=>kp b u e2 (nT b v e1) (.inl ⟨v,e1⟩)) hbare (fun _ z=>nomatch z)
  have J2:Inv X pins (JR X.N.length none) H2 { s1 with heap:=h6 }:=J.hJ.weak (by rw [Kn];exact J.len.symm) fun k v e=>by
   rw [Lg] at e
   split at e <;> cases e
  have there0:∀b o,s0.heap.get? b=some o->b≠ea:=fun b o e z=>by rw [z,hnew] at e;cases e
  refine⟨J2,J2.GS ?_ ?_ (fun x c e=>?_) (fun p hp=>?_) hn (ED ?_)⟩
  ·cases z:X.dE.heap.get? ea with
   | none=>rfl
   | some u =>
    obtain⟨o',e1⟩:=I0.base.there ea u z (by show ea∉X.ex;rw [hex];exact fun z=>nomatch z)
    exact absurd rfl (there0 ea o' e1)
  ·obtain⟨m,⟨o,_,_,ho,_⟩,_⟩:=I0.loc
   exact fun z=>there0 _ o ho z.symm
  ·obtain⟨v,o,ho,_⟩:=I0.cell x c e
   exact there0 c o ho
  ·exact there0 p.1 p.2 (I0.pin p (Jz _ hp)).1
  ·obtain⟨ob,e1,e2⟩:=f6.there
   exact⟨ob,e1,e2⟩
 have hfl':Heap.FlyingW Bs (X.env::X.outer) ea (.ref CE) a0 s1.heap:=hst ▸ hfl
 refine wpAny_looks_onW hfr hf hfl' fun h4 hheld hup4=>wpAny_landsW hheld fun h5 hfl5 hup5=>?_
 have up5:=hup4.trans hup5
 obtain⟨J5,_⟩:=flyI h5 a0 (hst ▸ hfl5) up5
 refine wpAny_handleBy_cons (codeAny_handlers_test (kA (X:=X.fM ea) (J5.fM (e:=ea)) hg hm ?_ hd)) (by intro q;cases q)
 obtain⟨ob5,e5,c5⟩:=hfl5.there
 refine wW J5.fY ⟨ob5,e5,c5⟩ T.bx ht hsub ?_
 refine codeAny_handlers_suite_as (lands_againW hfl5 fun h6 hfl6 hup6=>?_)
 obtain⟨_,J6⟩:=flyI h6 a0 (hst ▸ hfl6) (up5.trans hup6)
 refine jB (X:=X.fM ea) (v:=.ref ea) (J6.fM (e:=ea)) hN hi (.inl hl) rfl (fun s7 J7=>?_) (.inr hl)
 refine Lr (hh ea pins s7 _ _ (sY i D) J7 hth) (fun f s8 z=>?_) fun _ _ z=>z.elim
 cases f with
 | next =>
  obtain⟨σ8,H8,J8,q⟩:=z
  exact j7 (J8.uncaught I.ok) hN hi hl fun s9 J9=>⟨_,_,J9,q⟩
 | brk =>
  obtain⟨σ8,H8,J8,q⟩:=z
  exact j7 (J8.uncaught I.ok) hN hi hl fun s9 J9=>⟨_,_,J9,q⟩
 | cont =>
  obtain⟨σ8,H8,J8,q⟩:=z
  exact j7 (J8.uncaught I.ok) hN hi hl fun s9 J9=>⟨_,_,J9,q⟩
 | ret u =>
  obtain⟨v,σ8,H8,J8,r,q⟩:=z
  exact j7 (J8.uncaught I.ok) hN hi hl fun s9 J9=>⟨v,_,_,J9,r,q⟩
end
structure zh (K:IC) (mg:Str->Option Value) (cP cM cN cR cL cO:Addr):Prop where
 gP:mg "PlanError" = some (.ref cP)
 gM:mg "TooMany" = some (.ref cM)
 gN:mg "NoPiece" = some (.ref cN)
 gR:mg "NoRow" = some (.ref cR)
 gL:mg "NothingLeft" = some (.ref cL)
 gO:mg "NoPlan" = some (.ref cO)
 tP:kf K cP
 tM:kf K cM
 yP:typeIn K (.ref cP)=some (.type "type")
 sM:mroIn K cM (.ref cP)=some true
 kM:kitOne K (.ref cM) (.type "ValueError")=some true
 mM:kitAny K (.ref cM) [.ref cN,.ref cO,.ref cR,.ref cL]=some false
theorem uM:bootBuiltins "ValueError" = some (.type "ValueError"):=by decide +kernel
theorem CK {K:Frag}{C:Addr}:kitOne K (.ref C) (.ref C)=some true:=by unfold kitOne;rw [if_pos (by simp)]
section
variable {P:Program}{w:World}{K:IC}{mg:Str->Option Value}{base h:Heap}{x q m:Str}{st:Stmt}{f C:Addr}{fd:FuncData}{k:Nat}{ps:List Str}{sp:Sp}
theorem EI (P:Program)(w:World)(base:Heap)(X:K.In h)(G:h.Ns mainGlobals mg)(d:bF K x st f fd)(o:aW P w K mg base (fD P w) k f fd ps sp)(b:jr x x st ps):wu P w K mg base x k ps sp:=⟨⟨_,_,o,Jx X G d.a,d.F.kp,d.F.binds b⟩⟩
theorem CL (P:Program) (w:World) (base:Heap) (X:K.In h) (G:h.Ns mainGlobals mg) (aC:IW K mainGlobals m=some (some (.ref C))) (mk:Kb K C=true) (kc:JC K (.ref C)=true) (d:fz K C "__init__" q st f fd) (o:aW P w K mg base (fD P w) k f fd ps sp) (b:jr "__init__" q st ps):rP P w K mg base C m k ps sp:=⟨⟨_,_,o,⟨mk,d.a,d.i,kc⟩,Jx X G aC,d.F.binds b⟩⟩
end
inductive uC (cM:Addr) (vs:List V) (H:Hp) (Q:VK) (E:XK):Prop
 | mk (p:Addr) (xs:List V) (m:V) (_:vs=[.ref p,m]) (_:H p=some (.tup xs)) (_:60<xs.length) (_:xs.length<=1000) (_:E (.ref cM) none H)
inductive pF (D cM:Addr) (vs:List V) (H:Hp) (Q:VK) (E:XK):Prop
 | mk (kp dx p:Addr) (xs:List V) (m:V) (_:vs=[.ref kp,.ref p,m]) (_:H kp=some (.ins D dx [])) (_:H p=some (.tup xs)) (_:60<xs.length) (_:xs.length<=1000) (_:∀H',cm kp H H'->E (.ref cM) none H')
inductive uD (vs:List V) (H:Hp) (Q:VK) (_:XK):Prop
 | mk (p:Addr) (xs:List V) (m:V) (_:vs=[.ref p,m]) (_:H p=some (.tup xs)) (_:60<xs.length) (_:xs.length<=1000) (_:∀H',af H H'->Q (.bl true) H')
theorem EJ {P:Program}{w:World}{C:Addr}{vs:List V}{H:Hp}{Q:VK}{E E':XK}(h:fS P w C vs H Q E):fS P w C vs H Q E':=by
 cases h;constructor <;> assumption
theorem A0 {D:Addr}{vs:List V}{H:Hp}{Q:VK}{E E':XK}(h:jy D vs H Q E):jy D vs H Q E':=by
 cases h;constructor <;> assumption
structure Ks where
 ps:List Piece
 qs:List Piece
 cs:List Cp
 n:Int
structure iI (xs:List Str) (m:Nat) (S:Ks):Prop where
 ok:gF xs S.ps m
 tok:∀c∈S.cs,cV xs c.2
 cq:S.cs.length<=S.qs.length
 q4:S.qs.length<=400
 lay:i8 S.qs
structure KCall where
 k:Nat
 p:Piece
 dd:PyData
inductive eV (m:Nat) (S:Ks) (c:KCall) (S':Ks):Prop
 | mk (os:List (Option End)) (_:nO S.cs c.p (eR S.cs c.k) os) (_:nQ S.cs S.qs S.ps c.k m c.p S.n os c.dd S'.qs S'.cs S'.n) (_:S'.ps=S.ps.set c.k c.p)
theorem eV.one {m k:Nat}{p:Piece}{d d':PyData}{S T U:Ks}(h:eV m S ⟨k,p,d⟩ T)(g:eV m S ⟨k,p,d'⟩ U):d=d'/\T=U:=by
 obtain⟨os,h1,h2,h3⟩:=h
 obtain⟨os',g1,g2,g3⟩:=g
 obtain⟨e1,e2,e3,e4⟩:=nQ.one h1 g1 h2 g2
 obtain⟨a,b,c,n⟩:=T
 obtain⟨a',b',c',n'⟩:=U
 dsimp only at e1 e2 e3 e4 h3 g3
 rw [h3,g3,e2,e3,e4]
 exact⟨e1,rfl⟩
theorem eV.ok {m:Nat}{c:KCall}{S T:Ks}{xs:List Str}(h:eV m S c T)(o:iI xs m S)(hk:c.k<S.ps.length)(l:gF xs (S.ps.set c.k c.p) m):iI xs m T:=by
 obtain⟨os,h1,h2,h3⟩:=h
 obtain⟨a,b,d⟩:=h2.keeps l o.tok o.cq o.q4
 exact⟨by rw [h3];exact l,a,b,d,h2.lay h1 l hk o.lay⟩
theorem eV.told {m:Nat}{c:KCall}{S T:Ks}(h:eV m S c T):c.dd.canLay0=true/\c.dd.depth<=60/\bA c.dd=true:=by
 obtain⟨os,h1,h2,h3⟩:=h
 exact h2.told
theorem eV.len {m:Nat}{c:KCall}{S T:Ks}(h:eV m S c T):T.ps.length=S.ps.length:=by
 obtain⟨os,h1,h2,h3⟩:=h
 rw [h3,JG]
def eS (m:Nat):Ks->List KCall->Ks->Prop
 | S,[],T=>S=T
 | S,c::cs,T=>∃U,eV m S c U/\eS m U cs T
theorem eS.one {m:Nat}:∀{cs:List KCall} {S T U:Ks},eS m S cs T->eS m S cs U->T=U
 | [],_,_,_,h,g=>by cases h;cases g;rfl
 | c::cs,_,_,_,⟨V,h1,h2⟩,⟨W,g1,g2⟩=>by
  obtain⟨_,rfl⟩:=eV.one (k:=c.k) (p:=c.p) (d:=c.dd) (d':=c.dd) h1 g1
  exact eS.one h2 g2
theorem eS.snoc {m:Nat}:∀{cs:List KCall} {S T U:Ks} {c:KCall},eS m S cs T->eV m T c U->eS m S (cs++[c]) U
 | [],_,_,_,_,h,g=>by cases h;exact⟨_,g,rfl⟩
 | c::cs,_,_,_,_,⟨V,h1,h2⟩,g=>⟨V,h1,eS.snoc h2 g⟩
theorem eS.split {m:Nat}:∀{as bs:List KCall} {S T:Ks},eS m S (as++bs) T->∃U,eS m S as U/\eS m U bs T
 | [],_,S,_,h=>⟨S,rfl,h⟩
 | a::as,_,_,_,⟨V,h1,h2⟩=>by
  obtain⟨U,g1,g2⟩:=eS.split h2
  exact⟨U,⟨V,h1,g1⟩,g2⟩
theorem eS.next {m i:Nat}{cs:List KCall}{S T U:Ks}{c:KCall}(h:eS m S cs T)(g:eS m S (cs.take i) U)(hc:cs[i]?=some c):∃V,eV m U c V/\eS m S (cs.take (i+1)) V:=by
 have hlt:i<cs.length:=(IY.mp hc).1
 have e:cs=cs.take i++(c::cs.drop (i+1)):=by
  have h1:=IY.mp hc
  rw [<-h1.2,<-List.drop_eq_getElem_cons hlt,List.take_append_drop]
 rw [e] at h
 obtain⟨U',h1,V,h2,h3⟩:=h.split
 cases eS.one g h1
 refine⟨V,h2,?_⟩
 rw [Ju,hc]
 exact g.snoc h2
inductive d8 (D:Addr) (H:Hp) (kp:Addr) (m:Nat) (S:Ks):Prop
 | mk (plv ov cv:V) (ds:List PyData) (_:nK D H kp plv m ov cv S.n) (_:aJ H plv (bM S.ps)) (_:aJ H ov (bM S.qs)) (_:aJ H cv (.tuple ds)) (_:Paired (fun d c=>CD c d) ds S.cs)
theorem d8.keep {D:Addr}{H H':Hp}{kp:Addr}{m:Nat}{S:Ks}(h:d8 D H kp m S)(kt:∀p zs,H p=some (.tup zs)->H' p=some (.tup zs))(hk:∀o,H kp=some o->H' kp=some o):d8 D H' kp m S:=by
 obtain⟨plv,ov,cv,ds,⟨dx,a⟩,b,c,d,e⟩:=h
 exact⟨plv,ov,cv,ds,⟨dx,hk _ a⟩,b.av kt (aH _),c.av kt (aH _),d.av kt (fU e),e⟩
theorem d8.same {D:Addr}{H H':Hp}{kp:Addr}{m:Nat}{S:Ks}(h:d8 D H kp m S)(s:af H H'):d8 D H' kp m S:=h.keep (fun p zs e=>s _ _ e) fun o e=>s _ _ e
theorem d8.ins {D:Addr}{H:Hp}{kp:Addr}{m:Nat}{S:Ks}(h:d8 D H kp m S):∃dx fs,H kp=some (.ins D dx fs):=by
 obtain⟨plv,ov,cv,ds,⟨dx,a⟩,b,c,d,e⟩:=h
 exact⟨dx,_,a⟩
theorem d8.but {D:Addr}{H H':Hp}{kp kp':Addr}{m m':Nat}{S S':Ks}(h:d8 D H kp m S)(h':d8 D H kp' m' S')(b:cm kp' H H')(ne:kp≠kp'):d8 D H' kp m S:=by
 obtain⟨dx,fs,e⟩:=h'.ins
 exact h.keep (b.av e) fun o e=>b _ _ e ne
theorem d8.fix {D:Addr}{H H':Hp}{kp b:Addr}{m:Nat}{S:Ks}(h:d8 D H kp m S)(B:cT H b)(f:Fix b H H'):d8 D H' kp m S:=by
 obtain⟨dx,fs,e⟩:=h.ins
 exact h.keep (fun p zs e=>f p _ e (B.de e)) fun o e'=>f _ _ e' fun z=>by
  obtain⟨x,y,hb,_⟩:=B
  rw [<-z,e] at hb;cases hb
inductive ym (D:Addr) (vs:List V) (H:Hp) (Q:VK) (_:XK):Prop
 | mk (kp:Addr) (m:Nat) (S:Ks) (_:vs=[.ref kp]) (_:d8 D H kp m S) (_:∀(t:Addr) (ds:List PyData) H',Paired (fun d c=>CD c d) ds S.cs->aJ H' (.ref t) (oJ S.ps S.qs ds S.n)->af H H'->Q (.ref t) H')
theorem j8 {ps qs:List Piece}{ds:List PyData}{cs:List Cp}{n:Int}(h:Paired (fun d c=>CD c d) ds cs):bA (oJ ps qs ds n)=true:=by
 show (bA (bM ps)&&(bA (bM qs)&&(bA (.tuple ds)&&(true&&true))))=true
 rw [aH,aH,fU h]
 rfl
theorem iI.four {xs:List Str}{m:Nat}{S:Ks}{ds:List PyData}(o:iI xs m S)(h:Paired (fun d c=>CD c d) ds S.cs):(oJ S.ps S.qs ds S.n).canLay0=true/\(oJ S.ps S.qs ds S.n).depth<=60:=EA h o.ok.gm o.tok (jO o.ok.gm o.ok.bW) o.lay
theorem iI.first {xs:List Str}{ps:List Piece}{m:Nat}(ok:gF xs ps m):iI xs m ⟨ps,(cy ps m).2,(cy ps m).1,1⟩:=by
 obtain⟨I,hol,_⟩:=jR ok.bW ok.n0 ok.m1
 have hsz:=ur ok.bW ok.n0 ok.m1
 have hLP:=(uv ok.bW ok.n0 ok.m1).len
 rw [ID] at hLP
 have:=ok.pD
 have:=ok.m3
 exact⟨ok,fun c hc=>(I.ok c hc).2,by show (cy ps m).1.length<=(cy ps m).2.length;omega,by show (cy ps m).2.length<=400;have:=hsz.2;omega,jO ok.gm (uq ok.bW ok.n0 ok.m1)⟩
def rQ (c:KCall):PyData:=.tuple [.int (c.k:Nat),bK c.p,c.dd]
def Gb (xs:List Str)(n:Nat)(p:Piece):Prop:=(p.1.length<=12/\∀d∈p.1,cB xs d)/\ft xs n p.2
theorem cT.sm {H H':Hp}{b:Addr}(B:cT H b)(s:af H H'):cT H' b:=by
 obtain⟨x,y,hb,r⟩:=B
 exact⟨x,y,s _ _ hb,r⟩
theorem cT.HV {H H':Hp}{b kp:Addr}{D:Addr}{m:Nat}{S:Ks}(B:cT H b)(K:d8 D H kp m S)(s:cm kp H H'):cT H' b:=by
 obtain⟨x,y,hb,r⟩:=B
 obtain⟨dx,fs,e⟩:=K.ins
 exact⟨x,y,s _ _ hb (fun z=>by rw [z,e] at hb;cases hb),r⟩
theorem zi {D:Addr}{H H':Hp}{kp dx:Addr}{plv ov cv:V}{ps:List Piece}{m:Nat}{ds:List PyData}(nx:H kp=none)(ndx:H dx=none)(r:aJ H plv (bM ps))(cc:Paired (fun d c=>CD c d) ds (cy ps m).1)
  (ro:aJ H' ov (bM (cy ps m).2)) (rc:aJ H' cv (.tuple ds)) (A:nK D H' kp plv m ov cv 1) (b:cm kp (upd (upd H dx (.own kp)) kp (.ins D dx [])) H'):d8 D H' kp m ⟨ps,(cy ps m).2,(cy ps m).1,1⟩/\af H H':=by
 have s:af H H':=fun c o e=>b _ _ (by rw [ao (ar e nx),ao (ar e ndx)];exact e) (ar e nx)
 exact⟨⟨plv,ov,cv,ds,A,r.same s (aH _),ro,rc,cc⟩,s⟩
theorem yn {xs:List Str} {ps:List Piece} {m c:Nat} (bW:bY xs 3 ps) (xok:(∀x∈xs,dP x)/\xs.length<=4) (hl:ps.length=c) (h0:0<c) (h60:c<=60) (h1:1<=m) (h3:m<=300):gF (xs++[("abcdefgh" : Str)]) ps m where
 bW:=(bW.up (k:=12) (by decide)).Ir [("abcdefgh" : Str)]
 gm:=fun x hx=>(IV.mp hx).elim (xok.1 x) fun h=>by rw [IH.mp h];constructor <;> decide +kernel
 b8:=by rw [IJ];have:=xok.2;show _+1<=50;omega
 n0:=by omega
 pD:=by omega
 m1:=h1
 m3:=h3
theorem yo:∀(as bs:List PyData),bB (as++bs)=(bB as&&bB bs)
 | [],bs=>rfl
 | a::as,bs=>by show (bA a&&bB (as++bs))=((bA a&&bB as)&&bB bs);rw [yo as bs,Bool.and_assoc]
end L2
namespace My
open PySem PySem.Spec PyProof.Rows L2
def top (i:Nat):Stmt:=PySem.Challenge.pw_ledpast_k46_two_keepers.main.body.getD i (.Pass ⟨0,0,0,0⟩)
structure Bl (mg:Str->Option Value):Prop where
 len:mg "len" = none
 zip:mg "zip" = none
 tuple:mg "tuple" = none
 sorted:mg "sorted" = none
 set:mg "set" = none
 dict:mg "dict" = none
 min:mg "min" = none
 max:mg "max" = none
 range:mg "range" = none
 list:mg "list" = none
 int:mg "int" = none
 all:mg "all" = none
 enumerate:mg "enumerate" = none
 isinstance:mg "isinstance" = none
 ValueError:mg "ValueError" = none
abbrev iq:Stmt:=top 10
theorem qd:aM ["thing", "kinds", "wanted"] ["thing", "kinds", "wanted"] (au iq):=cw
abbrev nU:Stmt:=top 12
theorem zj:aM ["end"] ["end"] (au nU):=cw
abbrev iJ:Stmt:=top 13
theorem rR:aM ["end"] ["end"] (au iJ):=cw
abbrev mf:Stmt:=top 11
theorem gu:aM ["plan", "names", "deeds", "end", "deed"] ["plan"] (au mf):=cw
abbrev nV:Stmt:=top 19
theorem mh:aM ["number", "stretch", "low", "high"] ["number", "stretch"] (au nV):=cw
abbrev jS:Stmt:=top 21
theorem gG:aM ["stretch", "number", "low", "high", "top"] ["stretch", "number"] (au jS):=cw
abbrev kh:Stmt:=top 22
theorem ir:aM ["stretch", "number", "low", "high", "bottom"] ["stretch", "number"] (au kh):=cw
abbrev nW:Stmt:=top 23
theorem zk:aM ["stretch", "number"] ["stretch", "number"] (au nW):=cw
abbrev jc:Stmt:=top 24
theorem iK:aM ["stretch", "number", "low", "high"] ["stretch", "number"] (au jc):=cw
abbrev nX:Stmt:=top 25
theorem zl:aM ["stretch", "word", "number", "side"] ["stretch", "word", "number", "side"] (au nX):=cw
abbrev ki:Stmt:=top 20
theorem fN:aM ["one", "other", "low", "high", "low_fits", "high_fits"] ["one", "other"] (au ki):=cw
abbrev mi:Stmt:=top 28
theorem wX:aM ["stretches"] ["stretches"] (au mi):=cw
abbrev sZ:Stmt:=top 29
theorem CM:aM ["facts", "name"] ["facts", "name"] (au sZ):=cw
abbrev jT:Stmt:=top 30
theorem mH:aM ["facts", "name", "stretch", "stretches"] ["facts", "name", "stretch"] (au jT):=cw
abbrev qe:Stmt:=top 31
theorem uE:aM ["facts", "others", "stretches"] ["facts", "others"] (au qe):=cw
abbrev tf:Stmt:=top 32
theorem qg:aM ["stretch", "number", "low", "high"] ["stretch", "number"] (au tf):=cw
abbrev gS:Stmt:=top 33
theorem jh:aM ["stretches", "deed", "word", "name"] ["stretches", "deed"] (au gS):=cw
abbrev qh:Stmt:=top 34
theorem nY:aM ["facts", "deeds", "stretches", "deed"] ["facts", "deeds"] (au qh):=cw
abbrev iL:Stmt:=top 35
theorem dq:aM ["facts", "end", "ways", "word", "name", "number", "stretch", "parts"] ["facts", "end"] (au iL):=cw
abbrev tj:Stmt:=top 36
theorem wx:aM ["facts", "end", "beyond"] ["facts", "end"] (au tj):=cw
abbrev tm:Stmt:=top 37
theorem CN:aM ["plan"] ["plan"] (au tm):=cw
abbrev iM:Stmt:=inClass (top 15) 0
theorem rS:aM ["self", "first"] ["self", "first"] (au iM):=cw
abbrev iN:Stmt:=inClass (top 15) 1
theorem rT:aM ["self", "thing"] ["self", "thing"] (au iN):=cw
abbrev nZ:Stmt:=top 16
theorem iu:aM ["plan", "found", "waiting", "at", "way"] ["plan"] (au nZ):=cw
abbrev tq:Stmt:=top 17
theorem mj:aM ["plan", "found", "at", "way"] ["plan"] (au tq):=cw
abbrev ml:Stmt:=top 40
theorem pG:aM ["lead", "tops", "places", "most", "piece"] ["lead", "tops", "places", "most"] (au ml):=cw
abbrev qi:Stmt:=top 41
theorem A1:aM ["end", "ways"] ["end", "ways"] (au qi):=cw
abbrev mn:Stmt:=top 42
theorem bI:aM ["plan", "most", "tops", "copies", "pieces", "piece", "facts", "deeds", "end", "ahead", "ways"] ["plan", "most"] (au mn):=cw
abbrev tu:Stmt:=top 44
theorem CO:aM ["one", "lead"] ["one", "lead"] (au tu):=cw
abbrev jU:Stmt:=top 14
theorem uN:aM ["plan", "place", "piece"] ["plan", "place", "piece"] (au jU):=cw
abbrev kj:Stmt:=top 46
theorem jV:aM ["lead", "copies", "at", "one"] ["lead", "copies"] (au kj):=cw
abbrev km:Stmt:=top 47
theorem iw:aM ["facts", "piece", "copies", "deeds", "end", "ways"] ["facts", "piece", "copies"] (au km):=cw
abbrev fW:Stmt:=inClass (top 48) 0
theorem n9:aM ["self", "plan", "most"] ["self", "plan", "most"] (au fW):=cw
abbrev fO:Stmt:=inClass (top 48) 1
theorem mJ:aM ["self"] ["self"] (au fO):=cw
abbrev jd:Stmt:=inClass (top 48) 2
theorem fV:aM ["self", "places", "pieces", "others", "at", "piece"] ["self", "places", "pieces"] (au jd):=cw
abbrev fX:Stmt:=inClass (top 48) 3
theorem fP:aM ["self", "place", "piece", "places", "pieces"] ["self", "place", "piece"] (au fX):=cw
abbrev je:Stmt:=inClass (top 48) 4
theorem tw:aM ["self"] ["self"] (au je):=cw
abbrev iO:Stmt:=inClass (top 48) 5
theorem rV:aM ["self"] ["self"] (au iO):=cw
abbrev iP:Stmt:=inClass (top 48) 6
theorem rW:aM ["self"] ["self"] (au iP):=cw
abbrev jf:Stmt:=inClass (top 48) 7
theorem tD:aM ["self"] ["self"] (au jf):=cw
abbrev oa:Stmt:=top 50
theorem mq:aM ["script", "k", "cell"] ["script", "k"] (au oa):=cw
abbrev mr:Stmt:=top 51
theorem pH:aM ["bag", "many", "found"] ["bag", "many"] (au mr):=cw
abbrev kn:Stmt:=top 52
theorem dG:aM ["bag", "letters", "many", "base", "at", "names", "k", "name"] ["bag"] (au kn):=cw
abbrev jW:Stmt:=top 53
theorem uO:aM ["bag"] ["bag"] (au jW):=cw
abbrev mw:Stmt:=top 54
theorem ko:aM ["bag", "names", "word", "name"] ["bag", "names"] (au mw):=cw
abbrev og:Stmt:=top 55
theorem ju:aM ["bag", "names", "count", "way", "word", "name"] ["bag", "names", "count"] (au og):=cw
abbrev mx:Stmt:=top 56
theorem fk:aM ["bag", "count", "most", "names", "pieces", "k", "many", "end"] ["bag", "count", "most"] (au mx):=cw
abbrev ix:Stmt:=top 57
theorem eC:aM ["plan", "names", "deeds", "end", "deed"] ["plan"] (au ix):=cw
abbrev kq:Stmt:=top 58
theorem eD:aM ["bag", "plan", "deeds", "end", "names", "way", "at"] ["bag", "plan"] (au kq):=cw
abbrev ku:Stmt:=top 59
theorem wy:aM ["keeper"] ["keeper"] (au ku):=cw
abbrev iQ:Stmt:=top 60
theorem fE:aM ["plan", "most", "kinds", "e"] ["plan", "most"] (au iQ):=cw
abbrev oM:Stmt:=top 61
theorem dB:aM ["script", "first", "plan", "plans", "most", "keepers", "calls", "made", "k", "bag", "at", "place", "piece", "ahead", "found"] ["script"] (au oM):=cw
section
variable {P:Program}{w:World}{K:IC}{mg:Str->Option Value}{base:Heap}
theorem qm {f:Addr} {fd:FuncData} (F:bS K "parts_of_kind" "parts_of_kind" iq f fd) (Z:Bl mg)  : aW P w K mg base bQ 1 f fd ["thing", "kinds", "wanted"] (sF K):=by
 refine F.ok (k:=0) qd (fun vs H Q E h=>?_) (fun cdv A outer s H vs Q E hr h=>?_)
 ·obtain⟨t,s,v0,xs,ks,w,rfl,_⟩:=h
  rfl
 ·obtain⟨t,s,v0,xs,ks,w,rfl,ht,hs,hl,q⟩:=h
  refine⟨_,(ai (aF (eO ["part", "kind"] ["wanted"] [2] rfl (zZ rfl Z.zip (aG (iB kQ (pv 0) (jw ah) jv) (pv 1))) rfl (by decide +kernel) (by decide +kernel) (by decide +kernel) ⟨⟨rfl,.inl rfl,rfl⟩,True.intro⟩ (fun _ _ _ _=>(oz (K:=K) (n:=2) rfl (cx (n:=2) rfl (aK (aL (i:=0) (show ((["part", "kind"]:List Str)++(["wanted"]:List Str)).Nodup by decide +kernel) (hf:=Jg rfl)) (aK (aL (i:=1) (show ((["part", "kind"]:List Str)++(["wanted"]:List Str)).Nodup by decide +kernel) (hf:=Jg rfl)) bX))))) (fun _ _ _ _=>(oy (aR cU (pv 1) (pv 2) (aZ _)))) (fun _ _ _ _=>(pv 0))))),?_⟩
  refine⟨_,rfl,_,rfl,t,_,rfl,aw.of ht,fun hw=>?_,fun _ p np=>?_⟩
  ·exfalso
   obtain⟨h1,_⟩:=hw
   simp [HT.b6] at h1
  ·have ec:eW (v0::xs) (some 1) none=xs:=by simp [eW,HT.b6]
   rw [ec]
   have sp:=af.new (o:=.tup xs) np
   refine⟨_,rfl,p,s,rfl,⟨_,aw.of aa⟩,⟨_,hs.same sp⟩,fun acc na=>?_⟩
   refine z6 (K:=K) (a:=p) (b:=s) (xs:=xs) (ys:=ks.map V.str) (fun i zs IB H'=>∃(c1 c2:Option V),IB=[c1,c2,some (.str w)]/\zs=j1 w xs ks i/\H' acc=some (.lst zs)/\H' p=some (.tup xs)/\af H H') ?_ ?_ ?_ ?_
   ·exact⟨none,none,rfl,rfl,aa,af.new na _ _ aa,sp.trans (af.new na)⟩
   ·rintro i zs IB H4 hi ⟨c1,c2,rfl,rfl,ha,hp4,s4⟩
    exact⟨aw.of hp4,hs.same s4,ha,qM (by have:=Ai (w:=w) (xs:=xs) (ks:=ks) (i:=i);omega)⟩
   ·rintro i x y zs IB H4 u hx hy hu ⟨c1,c2,rfl,rfl,ha,hp4,s4⟩
    obtain⟨k,rfl,hk⟩:∃k,y=V.str k/\ks[i]?=some k:=by
     rw [IZ] at hy
     cases e:ks[i]? with
     | none=>rw [e] at hy;cases hy
     | some k=>rw [e] at hy;exact⟨k,(IU.inj hy).symm,rfl⟩
    have su:=af.new (o:=.tup [x,.str k]) hu
    refine⟨u,_,rfl,aw.of aa,rfl,_,_,rfl,_,_,rfl,rfl,?_⟩
    refine⟨_,rfl,_,rfl,rfl,_,rfl,?_⟩
    have hn:=yQ (w:=w) hx hk
    by_cases hkw:k=w
    ·rw [if_pos hkw] at hn
     refine dn (decide_eq_true (congrArg V.str hkw)) ?_
     refine⟨_,rfl,su _ _ ha,_,_,rfl,hn.symm,aa,?_,?_⟩
     ·rw [ao (bU hp4 ha (by intro z;cases z))]
      exact su _ _ hp4
     ·exact (s4.trans su).put (sp.free na)
    ·rw [if_neg hkw,JP] at hn
     refine bP (decide_eq_false fun z=>hkw (V.str.inj z)) ?_
     exact⟨_,_,rfl,hn.symm,su _ _ ha,su _ _ hp4,s4.trans su⟩
   ·rintro zs IB H4 ⟨c1,c2,rfl,rfl,ha,hp4,s4⟩
    rw [Ah] at ha
    exact q acc H4 ha s4
theorem zm {f:Addr} {fd:FuncData} (F:bS K "ways_on" "ways_on" nU f fd) (Z:Bl mg) {aE s0 s1 s2 s3:Addr} (GE:vD K mg aE s0 s1 s2 s3) (O_parts_of_kind:Own P w K mg base "parts_of_kind" 1 ["thing", "kinds", "wanted"] (sF K)):aW P w K mg base bQ 3 f fd ["end"] kT:=by
 refine F.ok (k:=2) zj (fun vs H Q E h=>?_) (fun cdv A outer s H vs Q E hr h=>?_)
 ·obtain⟨ea,e,rfl,_⟩:=h
  rfl
 ·obtain⟨ea,e,rfl,he,q⟩:=h
  refine⟨_,(ai (aF (bo bh rfl Z.tuple cf (aB (ay O_parts_of_kind hr (fq (pv 0) (sE GE.tab rfl (aI bD (pv 0) ah) (fun _ _=>rfl)) b0)))))),?_⟩
  obtain⟨xs,ev,hl,hp⟩:=Aj e
  rw [ev] at he
  obtain⟨s,hs,ks⟩:=GE.at_ e
  refine⟨_,rfl,_,rfl,ea,_,0,_,rfl,rfl,aw.of he,eE,_,s,rfl,hs,ea,s,_,xs,kE e, "piece",rfl,he,.inr ks,hl,fun l H1 hl1 s1=>?_⟩
  rw [hp] at hl1
  exact⟨l,_,rfl,.inl ⟨aO.of hl1,fun t ht=>q t _ aa (s1.trans (af.new ht))⟩⟩
theorem rX {f:Addr} {fd:FuncData} (F:bS K "without_ways" "without_ways" iJ f fd) (Z:Bl mg) (O_ways_on:Own P w K mg base "ways_on" 3 ["end"] kT):aW P w K mg base bQ 4 f fd ["end"] ue:=by
 refine F.ok (k:=3) rR (fun vs H Q E h=>?_) (fun cdv A outer s H vs Q E hr h=>?_)
 ·obtain⟨ea,e,rfl,_⟩:=h
  rfl
 ·obtain⟨ea,e,rfl,he,q⟩:=h
  refine⟨_,(ai (aF (iB kQ (pv 0) jv (jw (bf gd (aU aS rfl Z.len bT (aB (pv 0))) (aU aS rfl Z.len bT (aB (ay O_ways_on hr (aB (pv 0)))))))))),?_⟩
  refine⟨_,rfl,_,rfl,ea,_,rfl,.inr (aw.of he),_,rfl,ea,e,rfl,he,fun t H1 ht s1=>⟨t,_,rfl,.inr (aw.of ht),_,_,rfl,rfl,?_⟩⟩
  have he1:=s1 _ _ he
  have el:((fo e).length:Int)-(((br e).map fun k=>V.int (k:Nat)).length:Int)=((lQ e).length:Nat):=by cases e <;> rfl
  have ec:eW (fo e) none (some ((lQ e).length:Nat))=lQ e:=by
   unfold eW
   rw [HT.pN,HT.kG]
   cases e <;> rfl
  refine⟨_,congrArg V.int el,ea,_,rfl,aw.of he1,fun hw=>?_,fun _ p hp=>?_⟩
  ·unfold eW at ec
   rw [hw.1,hw.2] at ec
   refine q ea H1 ?_ s1
   rw [he1,<-ec]
   simp
  ·rw [ec]
   exact q p _ aa (s1.trans (af.new hp))
theorem wY {f:Addr} {fd:FuncData} (F:bS K "names_of" "names_of" mf f fd) (Z:Bl mg) {aD d0 d1 d2 d3 d4:Addr} (GD:uY K mg aD d0 d1 d2 d3 d4) {aE s0 s1 s2 s3:Addr} (GE:vD K mg aE s0 s1 s2 s3) (O_parts_of_kind:Own P w K mg base "parts_of_kind" 1 ["thing", "kinds", "wanted"] (sF K)):aW P w K mg base bQ 3 f fd ["plan"] tY:=by
 refine F.ok (k:=2) gu (fun vs H Q E h=>?_) (fun cdv A outer s H vs Q E hr h=>?_)
 ·obtain⟨plv,ps,xs,m,rfl,_⟩:=h
  rfl
 ·obtain⟨plv,ps,xs,m,rfl,hp,bW,hx64,hal,q⟩:=h
  refine⟨_,(ae (aY (i:=1) gu.nd (cY dz))
   (ae (eG PassesOwn.never rfl (ef (pv 0)) (cx rfl (aK (aL (i:=2) gu.nd) (aK (aL (i:=3) gu.nd) bX)))
   (ae (eG PassesOwn.never rfl (ef (pv 2)) (aL (i:=4) gu.nd)
   (ai (dD (gy PySem.F.plainAttrs_list PySem.F.slot_list_extend PySem.F.type_list_extend tT (pv 1) (aB (ay O_parts_of_kind hr (fq (pv 4) (sE GD.tab rfl (aI bD (pv 4) ah) (fun _ _=>rfl)) b0)))))))
   (ai (dD (gy PySem.F.plainAttrs_list PySem.F.slot_list_extend PySem.F.type_list_extend tT (pv 1) (aB (ay O_parts_of_kind hr (fq (pv 3) (sE GE.tab rfl (aI bD (pv 3) ah) (fun _ _=>rfl)) b0))))))))
   (ai (aF (bo bh rfl Z.tuple cf (aB (aU (uF rfl) rfl Z.sorted gX (aB (bo (Aw rfl) rfl Z.set Au (aB (pv 1))))))))))),?_⟩
  obtain⟨pp,vs,rfl,e1,r⟩:=aJ.bH hp
  have hl:=r.len
  refine⟨(by show 0<=sizeLine;decide),fun nm nn=>?_⟩
  have s0:=af.new (o:=.lst []) nn
  have big:∀(i:Nat) (ys:List Str),ys.length<=4000->(ys.map V.str).length<=sizeLine:=fun i ys h=>by rw [ID];exact IQ h (by decide)
  refine⟨_,rfl,pp,rfl,⟨_,aw.of (s0 _ _ e1)⟩,gU (K:=K) (a:=pp) (xs:=vs) (fun i IA H'=>∃(u1 u2 u3:Option V),IA=[some (.ref pp),some (.ref nm),u1,u2,u3]/\H' nm=some (.lst ((ba (ps.take i)).map V.str))/\af H H') ?_ ?_ ?_ ?_⟩
  ·exact⟨_,_,_,rfl,aa,s0⟩
  ·rintro i IA H1 hi ⟨u1,u2,u3,rfl,h1,s1⟩
   exact aw.of (s1 _ _ e1)
  ·rintro i x IA H1 hi ⟨u1,u2,u3,rfl,h1,s1⟩
   have hlt:i<ps.length:=by
    have:=(IY.mp hi).1
    rw [hl,ID] at this
    exact this
   have hpi:ps[i]?=some ps[i]:=by simp [hlt]
   generalize ps[i]=pe at hpi
   obtain⟨ds,e⟩:=pe
   have hnext:=j4 (f:=pNames) hpi
   have hsz:(ba (ps.take (i+1))).length<=4000:=IQ (mE (f:=pNames) (i+1)) hal
   have hsz':(ba (ps.take i)).length+((ds.flatMap cg).length+(gh e).length)<=4000:=by
    have z:=congrArg JX hnext
    unfold ba at hsz ⊢
    rw [z] at hsz
    simp only [IJ,pNames] at hsz
    omega
   obtain⟨p',xs',pc,da,ea,ws,ep,e1',el',hx',e2,e3,r3,e4⟩:=iE hp hpi
   cases ep
   rw [e1] at e1'
   cases e1'
   rw [hi] at hx'
   cases hx'
   refine⟨pc,_,rfl,aw.of (s1 _ _ e2),rfl,_,_,rfl,_,_,rfl,rfl,?_⟩
   refine⟨_,rfl,da,rfl,⟨_,aw.of (s1 _ _ e3)⟩,gU (K:=K) (a:=da) (xs:=ws) (fun j IA H'=>∃(u3:Option V),IA=[some (.ref pp),some (.ref nm),some (.ref da),some (.ref ea),u3]/\H' nm=some (.lst ((ba (ps.take i)++(ds.take j).flatMap cg).map V.str))/\af H H') ?_ ?_ ?_ ?_⟩
   ·exact⟨_,rfl,by simpa using h1,s1⟩
   ·rintro j IA H2 hj ⟨u3',rfl,h2,s2⟩
    exact aw.of (s2 _ _ e3)
   ·rintro j y IA H2 hj ⟨u3',rfl,h2,s2⟩
    have hjl:j<ds.length:=by
     have:=(IY.mp hj).1
     rw [r3.len,ID] at this
     exact this
    have hdj:ds[j]?=some ds[j]:=by simp [hjl]
    generalize ds[j]=dd at hdj
    obtain⟨v,hv,rd⟩:=r3.get (i:=j) (d:=cu dd) (by rw [IZ,hdj];rfl)
    rw [hj] at hv
    cases hv
    obtain⟨dp,rfl,hdp⟩:=sD rd
    have hdp2:=s2 _ _ hdp
    obtain⟨zs,ez,hzl,hpk⟩:=yX dd
    rw [ez] at hdp2
    obtain⟨s,hs,ks⟩:=GD.at_ dd
    have hnj:=j4 (f:=cg) hdj
    have hsj:((ds.take (j+1)).flatMap cg).length<=(ds.flatMap cg).length:=mE (f:=cg) (j+1)
    refine bu ?_
    refine⟨_,rfl,.inl ⟨rfl,_,aO.of h2⟩,_,rfl,_,rfl,dp,_,0,_,rfl,rfl,aw.of hdp2,eE,_,s,rfl,hs,dp,s,_,zs,kD dd, "name",rfl,hdp2,.inr ks,hzl,fun l H3 hl3 s3=>?_⟩
    rw [hpk] at hl3
    have h3:=s3 _ _ h2
    refine⟨nm,l,_,_,rfl,rfl,h3,hl3,?_,?_⟩
    ·rw [ID,ID,IJ]
     rw [hnj,IJ] at hsj
     exact IQ (show _<=4000 by omega) (by decide)
    ·refine⟨_,rfl,?_,(s2.trans s3).put nn⟩
     rw [aa,hnj,<-Jw];simp only [IT]
   ·rintro IA H2 ⟨u3',rfl,h2,s2⟩
    rw [show ws.length=ds.length by rw [r3.len,ID],Jn] at h2
    have e42:=s2 _ _ e4
    obtain⟨zs,ez,hzl,hpk⟩:=yY e
    rw [ez] at e42
    obtain⟨s,hs,ks⟩:=GE.at_ e
    refine⟨_,rfl,.inl ⟨rfl,_,aO.of h2⟩,_,rfl,_,rfl,ea,_,0,_,rfl,rfl,aw.of e42,eE,_,s,rfl,hs,ea,s,_,zs,kE e, "name",rfl,e42,.inr ks,hzl,fun l H3 hl3 s3=>?_⟩
    rw [hpk] at hl3
    have h3:=s3 _ _ h2
    refine⟨nm,l,_,_,rfl,rfl,h3,hl3,?_,?_⟩
    ·rw [ID,ID,IJ]
     exact IQ (show _<=4000 by omega) (by decide)
    ·refine⟨_,_,_,rfl,?_,(s2.trans s3).put nn⟩
     rw [aa,<-IT]
     unfold ba at hnext ⊢
     rw [hnext]
     simp only [pNames,Jw]
  ·rintro IA H1 ⟨u1,u2,u3,rfl,h1,s1⟩
   rw [show vs.length=ps.length by rw [hl,ID],Jn] at h1
   have hk:aO K H1 nm (((ba ps).map (Sum.inr:Str->Key)).map kV):=by rw [DZ];exact aO.of h1
   refine⟨_,rfl,nm,(ba ps).map Sum.inr,rfl,hk,(by rw [ID];show _+1<4096;omega),fun sa hsa=>?_⟩
   have hf:=pV bW
   refine⟨sa,LS.cD (ba ps),rfl,(by rw [aa,yZ]),(by omega),fun l ss hperm hsort hn=>?_⟩
   have s2:=af.new (o:=cI P w sa (LS.cD ((ba ps).map (Sum.inr:Str->Key)))) hsa
   refine⟨l,_,rfl,.inl ⟨aO.of aa,fun t ht=>?_⟩⟩
   exact q t ss _ aa hperm hsort (by rw [hperm.length_eq];omega) (((s1.trans s2).trans (af.new hn)).trans (af.new ht))
theorem zo {f:Addr} {fd:FuncData} (F:bS K "lies_in" "lies_in" nV f fd) (Z:Bl mg)  : aW P w K mg base bQ 1 f fd ["number", "stretch"] (xR K):=by
 refine F.ok (k:=0) mh (fun vs H Q E h=>?_) (fun cdv A outer s H vs Q E hr h=>?_)
 ·obtain⟨n,q,lo,hi,rfl,_⟩:=h
  rfl
 ·obtain⟨n,q,lo,hi,rfl,hq,k⟩:=h
  refine⟨_,(ae (cQ (pv 1) (cx rfl (aK (aL (i:=2) mh.nd) (aK (aL (i:=3) mh.nd) bX))))
   (ai (aF (mQ (uT (jC (gc (pv 2))) (hV (iA ox (pv 2) (pv 0) (aZ _)))) (hV (uT (jC (gc (pv 3))) (hV (iA ox (pv 0) (pv 3) (aZ _))))))))),?_⟩
  refine⟨_,rfl,q,_,rfl,hq,rfl,_,_,rfl,_,_,rfl,rfl,?_⟩
  cases lo with
  | none =>
   refine⟨_,rfl,_,rfl,bJ ⟨_,rfl,bJ ?_⟩⟩
   cases hi with
   | none=>exact⟨_,rfl,_,rfl,bJ k⟩
   | some b =>
    refine⟨_,rfl,_,rfl,bO ⟨_,rfl,_,rfl,_,_,rfl,rfl,?_⟩⟩
    simpa only [jm,Kt] using k
  | some a =>
   refine⟨_,rfl,_,rfl,bO ⟨_,rfl,_,rfl,_,_,rfl,rfl,_,rfl,?_⟩⟩
   cases hx:decide (a<=n) with
   | false=>exact bO (by have k':=k;simp only [jm,hx,Kz] at k';exact k')
   | true =>
    refine bJ ?_
    cases hi with
    | none=>exact⟨_,rfl,_,rfl,bJ (by have k':=k;simp only [jm,hx,Kt] at k';exact k')⟩
    | some b =>
     refine⟨_,rfl,_,rfl,bO ⟨_,rfl,_,rfl,_,_,rfl,rfl,?_⟩⟩
     have k':=k
     simp only [jm,hx,Kt] at k'
     exact k'
theorem uP {f:Addr} {fd:FuncData} (F:bS K "part_below" "part_below" jS f fd) (Z:Bl mg)  : aW P w K mg base bQ 1 f fd ["stretch", "number"] (nv K ig):=by
 refine F.ok (k:=0) gG (fun vs H Q E h=>?_) (fun cdv A outer s H vs Q E hr h=>?_)
 ·obtain⟨p,n,lo,hi,rfl,_⟩:=h
  rfl
 ·obtain⟨p,n,lo,hi,rfl,hp,q⟩:=h
  refine⟨_,(ae (cQ (pv 0) (cx rfl (aK (aL (i:=2) gG.nd) (aK (aL (i:=3) gG.nd) bX))))
   (ae (aY (i:=4) gG.nd (e6 (iU (gc (pv 3))) (bf gd (pv 1) ah) (aU (tN rfl) rfl Z.min zU (aG (pv 3) (bf gd (pv 1) ah)))))
   (ae (bE (PW.pt (qr (iU (kB (pv 2))) (om (aR qu (pv 2) (pv 4) (aZ _)))))
   (ai (aF fh))
   aV)
   (ai (aF (bc (aG (pv 2) (pv 4)))))))),?_⟩
  refine⟨_,rfl,p,_,rfl,hp,rfl,_,_,rfl,_,_,rfl,rfl,?_⟩
  cases hi with
  | none =>
   refine⟨_,rfl,_,rfl,bJ ⟨_,rfl,_,_,rfl,rfl,?_⟩⟩
   cases lo with
   | none =>
    refine⟨_,rfl,_,rfl,bO (bO ⟨_,rfl,_,rfl,ln2,fun l hl=>?_⟩)⟩
    exact q _ _ ⟨l,rfl,aa⟩ (af.new hl)
   | some i =>
    refine⟨_,rfl,_,rfl,bJ ⟨_,rfl,_,rfl,_,_,rfl,rfl,_,rfl,?_⟩⟩
    refine dW (fun hc=>?_) (fun hc=>?_)
    ·have hlt:lJ none n<i:=of_decide_eq_true hc
     exact q _ _ (by simp only [ig];rw [if_pos hlt];rfl) (af.refl H)
    ·have hlt:¬lJ none n<i:=fun z=>hc (decide_eq_true z)
     refine⟨_,rfl,_,rfl,ln2,fun l hl=>?_⟩
     exact q _ _ (by simp only [ig];rw [if_neg hlt];exact⟨l,rfl,aa⟩) (af.new hl)
  | some j =>
   refine⟨_,rfl,_,rfl,bO ⟨_,rfl,_,rfl,_,_,rfl,rfl,_,_,rfl,?_⟩⟩
   cases lo with
   | none =>
    refine⟨_,rfl,_,rfl,bO (bO ⟨_,rfl,_,rfl,ln2,fun l hl=>?_⟩)⟩
    exact q _ _ ⟨l,rfl,aa⟩ (af.new hl)
   | some i =>
    refine⟨_,rfl,_,rfl,bJ ⟨_,rfl,_,rfl,_,_,rfl,rfl,_,rfl,?_⟩⟩
    refine dW (fun hc=>?_) (fun hc=>?_)
    ·have hlt:lJ (some j) n<i:=of_decide_eq_true hc
     exact q _ _ (by simp only [ig];rw [if_pos hlt];rfl) (af.refl H)
    ·have hlt:¬lJ (some j) n<i:=fun z=>hc (decide_eq_true z)
     refine⟨_,rfl,_,rfl,ln2,fun l hl=>?_⟩
     exact q _ _ (by simp only [ig];rw [if_neg hlt];exact⟨l,rfl,aa⟩) (af.new hl)
theorem wz {f:Addr} {fd:FuncData} (F:bS K "part_from" "part_from" kh f fd) (Z:Bl mg)  : aW P w K mg base bQ 1 f fd ["stretch", "number"] (nv K jn):=by
 refine F.ok (k:=0) ir (fun vs H Q E h=>?_) (fun cdv A outer s H vs Q E hr h=>?_)
 ·obtain⟨p,n,lo,hi,rfl,_⟩:=h
  rfl
 ·obtain⟨p,n,lo,hi,rfl,hp,q⟩:=h
  refine⟨_,(ae (cQ (pv 0) (cx rfl (aK (aL (i:=2) ir.nd) (aK (aL (i:=3) ir.nd) bX))))
   (ae (aY (i:=4) ir.nd (e6 (iU (gc (pv 2))) (pv 1) (aU (zH rfl) rfl Z.max Fm (aG (pv 2) (pv 1)))))
   (ae (bE (PW.pt (qr (iU (kB (pv 3))) (om (aR qu (pv 4) (pv 3) (aZ _)))))
   (ai (aF fh))
   aV)
   (ai (aF (bc (aG (pv 4) (pv 3)))))))),?_⟩
  refine⟨_,rfl,p,_,rfl,hp,rfl,_,_,rfl,_,_,rfl,rfl,?_⟩
  cases lo with
  | none =>
   refine⟨_,rfl,_,rfl,bJ ⟨_,rfl,?_⟩⟩
   cases hi with
   | none =>
    refine⟨_,rfl,_,rfl,bO (bO ⟨_,rfl,_,rfl,ln2,fun l hl=>?_⟩)⟩
    exact q _ _ ⟨l,rfl,aa⟩ (af.new hl)
   | some j =>
    refine⟨_,rfl,_,rfl,bJ ⟨_,rfl,_,rfl,_,_,rfl,rfl,_,rfl,?_⟩⟩
    refine dW (fun hc=>?_) (fun hc=>?_)
    ·have hlt:j<lK none n:=of_decide_eq_true hc
     exact q _ _ (by simp only [jn];rw [if_pos hlt];rfl) (af.refl H)
    ·have hlt:¬j<lK none n:=fun z=>hc (decide_eq_true z)
     refine⟨_,rfl,_,rfl,ln2,fun l hl=>?_⟩
     exact q _ _ (by simp only [jn];rw [if_neg hlt];exact⟨l,rfl,aa⟩) (af.new hl)
  | some i =>
   refine⟨_,rfl,_,rfl,bO ⟨_,rfl,_,rfl,_,_,rfl,?_⟩⟩
   cases hi with
   | none =>
    refine⟨_,rfl,_,rfl,bO (bO ⟨_,rfl,_,rfl,ln2,fun l hl=>?_⟩)⟩
    exact q _ _ ⟨l,rfl,aa⟩ (af.new hl)
   | some j =>
    refine⟨_,rfl,_,rfl,bJ ⟨_,rfl,_,rfl,_,_,rfl,rfl,_,rfl,?_⟩⟩
    refine dW (fun hc=>?_) (fun hc=>?_)
    ·have hlt:j<lK (some i) n:=of_decide_eq_true hc
     exact q _ _ (by simp only [jn];rw [if_pos hlt];rfl) (af.refl H)
    ·have hlt:¬j<lK (some i) n:=fun z=>hc (decide_eq_true z)
     refine⟨_,rfl,_,rfl,ln2,fun l hl=>?_⟩
     exact q _ _ (by simp only [jn];rw [if_neg hlt];exact⟨l,rfl,aa⟩) (af.new hl)
theorem zp {f:Addr} {fd:FuncData} (F:bS K "part_at" "part_at" nW f fd) (Z:Bl mg) (O_lies_in:Own P w K mg base "lies_in" 1 ["number", "stretch"] (xR K)):aW P w K mg base bQ 2 f fd ["stretch", "number"] (nv K vy):=by
 refine F.ok (k:=1) zk (fun vs H Q E h=>?_) (fun cdv A outer s H vs Q E hr h=>?_)
 ·obtain⟨p,n,lo,hi,rfl,_⟩:=h
  rfl
 ·obtain⟨p,n,lo,hi,rfl,hp,q⟩:=h
  refine⟨_,(ae (bE (mP (ay O_lies_in hr (aG (pv 1) (pv 0))))
   (ai (aF (bc (aG (pv 1) (pv 1)))))
   aV)
   (ai (aF fh))),?_⟩
  refine⟨_,rfl,_,rfl,n,p,lo,hi,rfl,hp,_,rfl,?_⟩
  refine dW (fun hc=>?_) (fun hc=>?_)
  ·refine⟨_,rfl,_,rfl,ln2,fun l hl=>?_⟩
   exact q _ _ (by simp only [vy,if_pos hc];exact⟨l,rfl,aa⟩) (af.new hl)
  ·exact q _ _ (by simp only [vy,if_neg hc];rfl) (af.refl H)
theorem tE {f:Addr} {fd:FuncData} (F:bS K "part_beside" "part_beside" jc f fd) (Z:Bl mg)  : aW P w K mg base bQ 1 f fd ["stretch", "number"] (nv K lL):=by
 refine F.ok (k:=0) iK (fun vs H Q E h=>?_) (fun cdv A outer s H vs Q E hr h=>?_)
 ·obtain⟨p,n,lo,hi,rfl,_⟩:=h
  rfl
 ·obtain⟨p,n,lo,hi,rfl,hp,q⟩:=h
  refine⟨_,(ae (cQ (pv 0) (cx rfl (aK (aL (i:=2) iK.nd) (aK (aL (i:=3) iK.nd) bX))))
   (ae (bE (PW.pt (qr (aR cU (pv 2) (pv 1) (aZ _)) (om (aR cU (pv 3) (pv 1) (aZ _)))))
   (ai (aF fh))
   aV)
   (ae (bE (aR cU (pv 2) (pv 1) (aZ _))
   (ai (aF (bc (aG (bf du (pv 1) ah) (pv 3)))))
   aV)
   (ae (bE (aR cU (pv 3) (pv 1) (aZ _))
   (ai (aF (bc (aG (pv 2) (bf gd (pv 1) ah)))))
   aV)
   (ai (aF (bc (aG (pv 2) (pv 3))))))))),?_⟩
  refine⟨_,rfl,p,_,rfl,hp,rfl,_,_,rfl,_,_,rfl,rfl,?_⟩
  refine⟨_,rfl,_,rfl,m4,_,rfl,?_⟩
  rw [qP]
  refine dW (fun hc=>?_) (fun hc=>?_)
  ·have h1:lo=some n:=of_decide_eq_true hc
   refine⟨_,rfl,_,rfl,m4,_,rfl,?_⟩
   rw [qP]
   refine dW (fun hd=>?_) (fun hd=>?_)
   ·have h2:hi=some n:=of_decide_eq_true hd
    exact q _ _ (by simp only [lL,if_pos h1,if_pos h2];rfl) (af.refl H)
   ·have h2:¬hi=some n:=fun z=>hd (decide_eq_true z)
    refine⟨_,rfl,_,rfl,m4,_,rfl,?_⟩
    rw [qP,hc]
    refine bJ ⟨_,rfl,_,_,rfl,rfl,_,rfl,ln2,fun l hl=>?_⟩
    exact q _ _ (by simp only [lL,if_pos h1,if_neg h2];exact⟨l,rfl,aa⟩) (af.new hl)
  ·have h1:¬lo=some n:=fun z=>hc (decide_eq_true z)
   refine bO ?_
   refine⟨_,rfl,_,rfl,m4,_,rfl,?_⟩
   rw [qP,show decide (lo=some n)=false from decide_eq_false h1]
   refine bO ?_
   refine⟨_,rfl,_,rfl,m4,_,rfl,?_⟩
   rw [qP]
   refine dW (fun hd=>?_) (fun hd=>?_)
   ·have h2:hi=some n:=of_decide_eq_true hd
    refine⟨_,rfl,_,rfl,_,_,rfl,rfl,ln2,fun l hl=>?_⟩
    exact q _ _ (by simp only [lL,if_neg h1,if_pos h2];exact⟨l,rfl,aa⟩) (af.new hl)
   ·have h2:¬hi=some n:=fun z=>hd (decide_eq_true z)
    refine⟨_,rfl,_,rfl,ln2,fun l hl=>?_⟩
    exact q _ _ (by simp only [lL,if_neg h1,if_neg h2];exact⟨l,rfl,aa⟩) (af.new hl)
theorem zq {f:Addr} {fd:FuncData} (F:bS K "part_of" "part_of" nX f fd) (Z:Bl mg) (O_part_below:Own P w K mg base "part_below" 1 ["stretch", "number"] (nv K ig)) (O_part_from:Own P w K mg base "part_from" 1 ["stretch", "number"] (nv K jn)) (O_part_at:Own P w K mg base "part_at" 2 ["stretch", "number"] (nv K vy)) (O_part_beside:Own P w K mg base "part_beside" 1 ["stretch", "number"] (nv K lL)):aW P w K mg base bQ 3 f fd ["stretch", "word", "number", "side"] (xS K):=by
 refine F.ok (k:=2) zl (fun vs H Q E h=>?_) (fun cdv A outer s H vs Q E hr h=>?_)
 ·obtain⟨p,w,n,side,lo,hi,rfl,_⟩:=h
  rfl
 ·obtain⟨p,w,n,side,lo,hi,rfl,hp,q⟩:=h
  refine⟨_,(ae (bE (aR cU (pv 1) b0 (aZ _))
   (ai (aF (e6 (mP (pv 3)) (ay O_part_below hr (aG (pv 0) (pv 2))) (ay O_part_from hr (aG (pv 0) (pv 2))))))
   aV)
   (ai (aF (e6 (mP (pv 3)) (ay O_part_at hr (aG (pv 0) (pv 2))) (ay O_part_beside hr (aG (pv 0) (pv 2))))))),?_⟩
  refine⟨_,rfl,rfl,_,rfl,?_⟩
  by_cases hw:w = "less"
  ·subst hw
   rw [Ag]
   refine bJ ⟨_,rfl,_,rfl,?_⟩
   cases side with
   | true=>exact bJ ⟨_,rfl,_,rfl,p,n,lo,hi,rfl,hp,fun v H1 r s1=>q v H1 (by simp only [ij,qO,if_true];exact r) s1⟩
   | false=>exact bO ⟨_,rfl,_,rfl,p,n,lo,hi,rfl,hp,fun v H1 r s1=>q v H1 (by simp only [ij,qO,if_true,JT,if_false];exact r) s1⟩
  ·have e:decide (V.str w=V.str "less")=false:=decide_eq_false fun z=>hw (V.str.inj z)
   rw [e]
   refine bO ⟨_,rfl,_,rfl,?_⟩
   cases side with
   | true=>exact bJ ⟨_,rfl,_,rfl,p,n,lo,hi,rfl,hp,fun v H1 r s1=>q v H1 (by simp only [ij,Af,if_neg hw,if_true];exact r) s1⟩
   | false=>exact bO ⟨_,rfl,_,rfl,p,n,lo,hi,rfl,hp,fun v H1 r s1=>q v H1 (by simp only [ij,Af,if_neg hw,JT,if_false];exact r) s1⟩
theorem wA {f:Addr} {fd:FuncData} (F:bS K "is_within" "is_within" ki f fd) (Z:Bl mg)  : aW P w K mg base bQ 1 f fd ["one", "other"] (uf K):=by
 refine F.ok (k:=0) fN (fun vs H Q E h=>?_) (fun cdv A outer s H vs Q E hr h=>?_)
 ·obtain⟨p,q,s,t,rfl,_⟩:=h
  rfl
 ·obtain⟨p,q,s,t,rfl,hp,hq,k⟩:=h
  refine⟨_,(ae (cQ (pv 1) (cx rfl (aK (aL (i:=2) fN.nd) (aK (aL (i:=3) fN.nd) bX))))
   (ae (aY (i:=4) fN.nd (uT (jC (gc (pv 2))) (hV (mQ (jC (kB (aI bD (pv 0) ah))) (hV (iA ox (pv 2) (aI bD (pv 0) ah) (aZ _)))))))
   (ae (aY (i:=5) fN.nd (uT (jC (gc (pv 3))) (hV (mQ (jC (kB (aI bD (pv 0) ah))) (hV (iA ox (aI bD (pv 0) ah) (pv 3) (aZ _)))))))
   (ai (aF (mQ (pv 4) (hV (pv 5)))))))),?_⟩
  obtain⟨lo,hi⟩:=s
  obtain⟨lo2,hi2⟩:=t
  have k:Q (.bl (lS lo lo2&&jq hi hi2)) H:=k
  refine⟨_,rfl,q,_,rfl,hq,rfl,_,_,rfl,_,_,rfl,rfl,?_⟩
  cases lo2 with
  | none =>
   refine⟨_,rfl,_,rfl,bJ ?_⟩
   cases hi2 with
   | none =>
    refine⟨_,rfl,_,rfl,bJ ?_⟩
    exact⟨_,rfl,_,rfl,bJ ⟨_,rfl,k⟩⟩
   | some b =>
    refine⟨_,rfl,_,rfl,bO ?_⟩
    refine⟨_,rfl,p,_,1,_,rfl,rfl,hp,en,_,rfl,?_⟩
    cases hi with
    | none=>exact bO ⟨_,rfl,_,rfl,bJ ⟨_,rfl,k⟩⟩
    | some c =>
     refine bJ ⟨_,rfl,p,_,1,_,rfl,rfl,hp,en,_,rfl,_,_,rfl,rfl,?_⟩
     exact⟨_,rfl,_,rfl,bJ ⟨_,rfl,k⟩⟩
  | some a =>
   refine⟨_,rfl,_,rfl,bO ?_⟩
   refine⟨_,rfl,p,_,0,_,rfl,rfl,hp,eE,_,rfl,?_⟩
   cases lo with
   | none =>
    refine bO ?_
    cases hi2 with
    | none =>
     refine⟨_,rfl,_,rfl,bJ ?_⟩
     exact⟨_,rfl,_,rfl,bO k⟩
    | some b =>
     refine⟨_,rfl,_,rfl,bO ?_⟩
     refine⟨_,rfl,p,_,1,_,rfl,rfl,hp,en,_,rfl,?_⟩
     cases hi with
     | none=>exact bO ⟨_,rfl,_,rfl,bO k⟩
     | some c =>
      refine bJ ⟨_,rfl,p,_,1,_,rfl,rfl,hp,en,_,rfl,_,_,rfl,rfl,?_⟩
      exact⟨_,rfl,_,rfl,bO k⟩
   | some a' =>
    refine bJ ⟨_,rfl,_,rfl,p,_,0,_,rfl,rfl,hp,eE,_,_,rfl,rfl,?_⟩
    cases hi2 with
    | none =>
     refine⟨_,rfl,_,rfl,bJ ?_⟩
     refine⟨_,rfl,_,rfl,?_⟩
     cases hx:decide (a<=a') with
     | true=>exact bJ ⟨_,rfl,by have k':=k;simp only [lS,jq,hx] at k';exact k'⟩
     | false=>exact bO (by have k':=k;simp only [lS,jq,hx] at k';exact k')
    | some b =>
     refine⟨_,rfl,_,rfl,bO ?_⟩
     refine⟨_,rfl,p,_,1,_,rfl,rfl,hp,en,_,rfl,?_⟩
     cases hi with
     | none =>
      refine bO ⟨_,rfl,_,rfl,?_⟩
      cases hx:decide (a<=a') with
      | true=>exact bJ ⟨_,rfl,by have k':=k;simp only [lS,jq,hx] at k';exact k'⟩
      | false=>exact bO (by have k':=k;simp only [lS,jq,hx] at k';exact k')
     | some c =>
      refine bJ ⟨_,rfl,p,_,1,_,rfl,rfl,hp,en,_,rfl,_,_,rfl,rfl,?_⟩
      refine⟨_,rfl,_,rfl,?_⟩
      cases hx:decide (a<=a') with
      | true=>exact bJ ⟨_,rfl,by have k':=k;simp only [lS,jq,hx,Kt] at k';exact k'⟩
      | false=>exact bO (by have k':=k;simp only [lS,jq,hx,Kz] at k';exact k')
theorem wZ {f:Addr} {fd:FuncData} (F:bS K "facts_of" "facts_of" mi f fd) (Z:Bl mg) {aA:Addr} (GA:iH K mg aA)  : aW P w K mg base bQ 1 f fd ["stretches"] (ng aA):=by
 refine F.ok (k:=0) wX (fun vs H Q E h=>?_) (fun cdv A outer s H vs Q E hr h=>?_)
 ·obtain⟨d,kvs,ks,T,rfl,_⟩:=h
  rfl
 ·obtain⟨d,kvs,ks,T,rfl,hd,tb,hl,q⟩:=h
  refine⟨_,(ai (aF (bo bh rfl Z.tuple cf (aB (eO ["name"] ["stretches"] [0] rfl (ow (aU (m5 rfl) rfl Z.sorted gX (aB (pv 0)))) rfl (by decide +kernel) (by decide +kernel) (by decide +kernel) ⟨⟨rfl,.inl rfl,rfl⟩,True.intro⟩ (fun _ _ _ _=>(aL (i:=0) (show ((["name"]:List Str)++(["stretches"]:List Str)).Nodup by decide +kernel) (hf:=Jg rfl))) (fun _ _ _ _=>(oy (aR (FG (aA:=aA) hr.units GA) (xG (gB hr) (pv 1) (pv 0) (fun _ _=>rfl)) (dC (v:=.ref aA) rfl GA.qR rfl) (aZ _)))) (fun _ _ _ _=>(bc (aG (pv 0) (xG (gB hr) (pv 1) (pv 0) (fun _ _=>rfl)))))))))),?_⟩
  refine⟨_,rfl,d,kvs,ks,rfl,hd,tb.keys,hl,fun l ss hp hs hn=>?_⟩
  have srt:j5 ss:=⟨t6 hs,hp.nodup_iff.mpr tb.nd⟩
  have hl1:(upd H l (.lst (ss.map V.str))) l=some (.lst (ss.map V.str)):=aa
  have s1:af H (upd H l (.lst (ss.map V.str))):=af.new hn
  have hssl:ss.length<64:=by rw [hp.length_eq];exact hl
  generalize (upd H l (.lst (ss.map V.str)))=H1 at hl1 s1
  refine⟨l,rfl,⟨_,aO.of hl1⟩,fun acc na=>?_⟩
  refine sy (K:=K) (a:=l) (xs:=ss.map V.str) (fun i ys IB H'=>∃c:Option V,IB=[c,some (.ref d)]/\aP H' ys (((ss.take i).filter fun x=>!decide (T x=dX)).map (dF T))/\H' acc=some (.lst ys)/\af H1 H') ?_ ?_ ?_ ?_
  ·exact⟨none,rfl,.nil,aa,af.new na⟩
  ·rintro i ys IB H2 hi ⟨c,rfl,r,ha,s2⟩
   refine⟨aO.of (s2 _ _ hl1),ha,?_⟩
   have h1:=r.len
   rw [ID] at h1
   have h2:=J3 (fun x=>!decide (T x=dX)) (ss.take i)
   have h3:=List.length_take_le i ss
   have h4:(ss.take i).length<=ss.length:=by rw [Jm];omega
   exact bp (by omega)
  ·rintro i x ys IB H2 hi ⟨c,rfl,r,ha,s2⟩
   obtain⟨y,hy,rfl⟩:∃y,ss[i]?=some y/\x=V.str y:=by
    rw [IZ] at hi
    cases e:ss[i]? with
    | none=>rw [e] at hi;cases hi
    | some k=>rw [e] at hi;exact⟨k,rfl,(IU.inj hi).symm⟩
   have hym:y∈ks:=hp.mem_iff.mp (Ja hy)
   have tk:ss.take (i+1)=ss.take i++[y]:=by rw [Ju,hy];rfl
   obtain⟨v,ev,sv,_⟩:∃v,dm kvs (Sum.inr y)=some v/\SV aA H v (T y)/\y∈ks:=by
    rcases tb.val y with ⟨_,_,c⟩ | h
    ·exact absurd hym c
    ·exact h
   have sv2:SV aA H2 v (T y):=sv.av fun p xs e=>s2 _ _ (s1 _ _ e)
   have hd2:H2 d=some (.dK kvs):=s2 _ _ (s1 _ _ hd)
   have dg:ie H2 d (.str y) (some v):=by
    have:=ie.k (k:=Sum.inr y) hd2
    rw [ev] at this
    exact this
   refine bu ?_
   refine⟨_,rfl,_,rfl,d,v,rfl,dg,T y,sv2,rfl,_,rfl,?_⟩
   by_cases hT:T y=dX
   ·refine bP (by rw [decide_eq_true hT];rfl) ?_
    refine⟨_,rfl,?_,ha,s2⟩
    rw [tk,Kg,K6 (by rw [decide_eq_true hT];decide),List.filter_nil,JP]
    exact r
   ·refine dn (by rw [decide_eq_false hT];rfl) ?_
    refine⟨_,rfl,_,rfl,_,rfl,d,v,rfl,dg,ln2,fun t nt=>?_⟩
    have s3:=af.new (o:=.tup [.str y,v]) nt
    have ht:(upd H2 t (.tup [.str y,v])) t=some (.tup [.str y,v]):=aa
    generalize (upd H2 t (.tup [.str y,v]))=H3 at s3 ht
    have sh:SH H3 v (T y):=by
     rcases sv2 with h | ⟨_,h⟩
     ·exact h.av fun p xs e=>s3 _ _ e
     ·exact absurd h hT
    have ha3:=s3 _ _ ha
    refine⟨ha3,_,rfl,?_,aa,(s2.trans s3).put na⟩
    rw [tk,Kg,Ln (by rw [decide_eq_false hT];rfl),List.filter_nil,IT]
    refine aP.app ((r.same s3 (lO T _)).put ha3 (lO T _)) ?_
    refine aJ.av (H:=H3) (fun p zs e=>by rw [ao (bU e ha3 (by intro z;cases z))];exact e) (.tup ht (.cons (.str y) (.cons sh.rd .nil))) ?_
    have:=lO T [y]
    simpa [bB] using this
  ·rintro ys IB H2 ⟨c,rfl,r,ha,s2⟩
   rw [ID,Jn] at r
   refine⟨acc,ys,rfl,.inl ⟨aO.of ha,fun t nt=>?_⟩⟩
   refine q _ _ ⟨t,ys,_,rfl,aa,srt.filter _,fun x=>?_,r.same (af.new nt) (lO T _)⟩ ((s1.trans s2).trans (af.new nt))
   rw [JU]
   constructor
   ·rintro⟨_,h⟩ e
    rw [decide_eq_true e] at h
    cases h
   ·intro h
    refine⟨?_,by rw [decide_eq_false h];rfl⟩
    rcases tb.val x with ⟨_,a,_⟩ | ⟨_,_,_,a⟩
    ·exact absurd a h
    ·exact hp.mem_iff.mpr a
theorem CP {f:Addr} {fd:FuncData} (F:bS K "known" "known" sZ f fd) (Z:Bl mg) {aA:Addr} (GA:iH K mg aA)  : aW P w K mg base bQ 1 f fd ["facts", "name"] (xP aA):=by
 refine F.ok (k:=0) CM (fun vs H Q E h=>?_) (fun cdv A outer s H vs Q E hr h=>?_)
 ·obtain⟨fv,x,T,rfl,_⟩:=h
  rfl
 ·obtain⟨fv,x,T,rfl,hf,q⟩:=h
  refine⟨_,(ai (aF (iY (gB hr) (bo (fw rfl) rfl Z.dict oB (aB (pv 0))) (pv 1) (dC (v:=.ref aA) rfl GA.qR rfl) ⟨rfl,rfl,rfl,rfl⟩))),?_⟩
  obtain⟨fp,xs,ss,rfl,hfp,srt,hmem,rf⟩:=hf
  obtain⟨kvs,l1,l2,l3,tb⟩:=FV.tb aA srt hmem rf
  refine⟨_,rfl,fp,xs,kvs,rfl,hfp,l1,l2,l3,fun d nd=>?_⟩
  obtain⟨v,ev,sv⟩:=tb.getD x
  exact⟨d,rfl,.inl ⟨kvs,.inl aa⟩,_,rfl,_,v,ie.k (k:=Sum.inr x) aa,ev,q v _ (sv.av fun p zs e=>af.new nd _ _ e) (af.new nd)⟩
theorem uQ {f:Addr} {fd:FuncData} (F:bS K "with_known" "with_known" jT f fd) (Z:Bl mg) {aA:Addr} (GA:iH K mg aA) (O_facts_of:Own P w K mg base "facts_of" 1 ["stretches"] (ng aA)):aW P w K mg base bQ 2 f fd ["facts", "name", "stretch"] (o7 aA):=by
 refine F.ok (k:=1) mH (fun vs H Q E h=>?_) (fun cdv A outer s H vs Q E hr h=>?_)
 ·obtain⟨fv,sv,x,T,s,rfl,_⟩:=h
  rfl
 ·obtain⟨fv,sv,x,T,s,rfl,hf,hs,b8,q⟩:=h
  refine⟨_,(ae (aY (i:=3) mH.nd (bo (fw rfl) rfl Z.dict oB (aB (pv 0))))
   (ae (kN (gB hr) (pv 3) (pv 1) (pv 2) rfl)
   (ai (aF (ay O_facts_of hr (aB (pv 3))))))),?_⟩
  obtain⟨fp,xs,ss,rfl,hfp,srt,hmem,rf⟩:=hf
  obtain⟨kvs,l1,l2,l3,tb⟩:=FV.tb aA srt hmem rf
  have hssl:ss.length<=62:=b8 ss (fun x hx=>(hmem x).mp hx) srt.nd
  have kl:kvs.length=ss.length:=by have:=congrArg JX tb.keys;simpa using this
  refine⟨_,rfl,fp,xs,kvs,rfl,hfp,l1,l2,l3,fun d nd=>?_⟩
  have k1:∀p zs,H p=some (.tup zs)->(upd H d (.dK kvs)) p=some (.tup zs):=fun p zs e=>af.new nd _ _ e
  refine⟨_,rfl,_,rfl,_,rfl,d,_,rfl,lI.k (k:=Sum.inr x) aa (bp (by omega)),?_⟩
  obtain⟨ks2,t2,k2,m2⟩:=(tb.av k1).put x (hs.av k1)
  have hd1:(upd H d (.dK kvs)) d=some (.dK kvs):=aa
  refine⟨_,rfl,d,_,ks2,_,rfl,aa,t2.av (fun p zs e=>by rw [ao (bU e hd1 (by intro z;cases z))];exact e),(by omega),fun v H2 f2 s2=>q v H2 f2 (((af.new nd).put nd).trans s2)⟩
theorem A5 {f:Addr} {fd:FuncData} (F:bS K "covers" "covers" qe f fd) (Z:Bl mg) {aA:Addr} (GA:iH K mg aA) (O_is_within:Own P w K mg base "is_within" 1 ["one", "other"] (uf K)):aW P w K mg base bQ 2 f fd ["facts", "others"] vR:=by
 refine F.ok (k:=1) uE (fun vs H Q E h=>?_) (fun cdv A outer s H vs Q E hr h=>?_)
 ·obtain⟨fv,gv,T,U,rfl,_⟩:=h
  rfl
 ·obtain⟨fv,gv,T,U,rfl,hf,hg,b8,q⟩:=h
  refine⟨_,(ae (aY (i:=2) uE.nd (bo (fw rfl) rfl Z.dict oB (aB (pv 1))))
   (ai (aF (aU (Az rfl) rfl Z.all FI (aB (eO ["name", "stretch"] ["stretches"] [2] rfl (ef (pv 0)) rfl (by decide +kernel) (by decide +kernel) (by decide +kernel) ⟨⟨rfl,.inl rfl,rfl⟩,True.intro⟩ (fun _ _ _ _=>(oz (K:=K) (n:=2) rfl (cx (n:=2) rfl (aK (aL (i:=0) (show ((["name", "stretch"]:List Str)++(["stretches"]:List Str)).Nodup by decide +kernel) (hf:=Jg rfl)) (aK (aL (i:=1) (show ((["name", "stretch"]:List Str)++(["stretches"]:List Str)).Nodup by decide +kernel) (hf:=Jg rfl)) bX))))) (fun _ _ _ _=>d9) (fun _ _ _ _=>(ay O_is_within hr (aG (iY (gB hr) (pv 2) (pv 0) (dC (v:=.ref aA) rfl GA.qR rfl) ⟨rfl,rfl,rfl,rfl⟩) (pv 1)))))))))),?_⟩
  obtain⟨fp,xs,ss,rfl,hfp,srt,hmem,rf⟩:=hf
  obtain⟨gp,ys0,ss0,rfl,hgp,srt0,hmem0,rg⟩:=hg
  obtain⟨kvs,l1,l2,l3,tb⟩:=FV.tb aA srt0 hmem0 rg
  refine⟨_,rfl,gp,ys0,kvs,rfl,hgp,l1,l2,l3,fun d nd=>?_⟩
  have s0:=af.new (o:=.dK kvs) nd
  have hd0:(upd H d (.dK kvs)) d=some (.dK kvs):=aa
  have rf2:=rf.same s0 (lO T ss)
  have hfp2:=s0 _ _ hfp
  have tb2:=tb.av fun p zs e=>s0 _ _ e
  generalize (upd H d (.dK kvs))=HH at s0 hd0 rf2 hfp2 tb2
  refine⟨_,rfl,fp,rfl,⟨_,aw.of hfp2⟩,fun acc na=>?_⟩
  refine kL (K:=K) (a:=fp) (xs:=xs) (fun i ys IB H'=>∃c1 c2:Option V,IB=[c1,c2,some (.ref d)]/\ys=((ss.take i).map fun y=>jP (U y) (T y)).map V.bl/\H' acc=some (.lst ys)/\af HH H') ?_ ?_ ?_ ?_
  ·exact⟨none,none,rfl,rfl,aa,af.new na⟩
  ·rintro i ys IB H1 hi ⟨c1,c2,rfl,rfl,ha,s1⟩
   refine⟨aw.of (s1 _ _ hfp2),ha,?_⟩
   rw [ID,ID,Jm]
   have h1:=b8 ss (fun x hx=>(hmem x).mp hx) srt.nd
   exact bp (by omega)
  ·rintro i x ys IB H1 hi ⟨c1,c2,rfl,rfl,ha,s1⟩
   have hil:i<ss.length:=by
    have:=(IY.mp hi).1
    rw [rf2.len,ID] at this
    exact this
   have hyi:ss[i]?=some ss[i]:=by simp [hil]
   generalize ss[i]=y at hyi
   obtain⟨v,hv,rd⟩:=rf2.get (i:=i) (d:=dF T y) (by rw [IZ,hyi];rfl)
   rw [hi] at hv
   cases hv
   obtain⟨t,q2,rfl,ht,hq2⟩:=FJ rd
   refine⟨t,_,rfl,aw.of (s1 _ _ ht),rfl,_,_,rfl,_,_,rfl,rfl,?_⟩
   refine i7 ?_
   refine bJ ?_
   obtain⟨u,eu,su⟩:=(tb2.av fun p zs e=>s1 _ _ e).getD y
   obtain⟨qa,rfl,hqa⟩:=su.sq GA
   refine⟨_,rfl,d,rfl,.inl ⟨kvs,.inl (s1 _ _ hd0)⟩,_,rfl,_,_,ie.k (k:=Sum.inr y) (s1 _ _ hd0),eu,_,rfl,qa,q2,U y,T y,rfl,hqa,aw.of (s1 _ _ hq2),?_⟩
   refine⟨ha,_,_,rfl,?_,aa,s1.put na⟩
   rw [Ju,hyi,Option.toList_some,IT,IT]
   rfl
  ·rintro ys IB H1 ⟨c1,c2,rfl,rfl,ha,s1⟩
   have hxl:xs.length=ss.length:=by rw [rf2.len,ID]
   rw [hxl,Jn] at ha
   refine⟨acc,_,rfl,aO.of ha,?_⟩
   exact q _ H1 (AG hmem) (s0.trans s1)
theorem CQ {f:Addr} {fd:FuncData} (F:bS K "moved" "moved" tf f fd) (Z:Bl mg)  : aW P w K mg base bQ 1 f fd ["stretch", "number"] (xM K):=by
 refine F.ok (k:=0) qg (fun vs H Q E h=>?_) (fun cdv A outer s H vs Q E hr h=>?_)
 ·obtain⟨p,s,n,rfl,_⟩:=h
  rfl
 ·obtain⟨p,s,n,rfl,hp,q⟩:=h
  refine⟨_,(ae (cQ (pv 0) (cx rfl (aK (aL (i:=2) qg.nd) (aK (aL (i:=3) qg.nd) bX))))
   (ai (aF (bc (aG (e6 (iU (gc (pv 2))) fh (bf du (pv 2) (pv 1))) (e6 (iU (gc (pv 3))) fh (bf du (pv 3) (pv 1)))))))),?_⟩
  obtain⟨lo,hi⟩:=s
  refine⟨_,rfl,p,_,rfl,hp,rfl,_,_,rfl,_,_,rfl,rfl,?_⟩
  cases lo with
  | none =>
   refine⟨_,rfl,_,rfl,bJ ?_⟩
   cases hi with
   | none=>exact⟨_,rfl,_,rfl,bJ ⟨ln2,fun t nt=>q _ _ ⟨t,rfl,aa⟩ (af.new nt)⟩⟩
   | some b=>exact⟨_,rfl,_,rfl,bO ⟨_,rfl,_,rfl,_,_,rfl,rfl,ln2,fun t nt=>q _ _ ⟨t,rfl,aa⟩ (af.new nt)⟩⟩
  | some a =>
   refine⟨_,rfl,_,rfl,bO ⟨_,rfl,_,rfl,_,_,rfl,rfl,?_⟩⟩
   cases hi with
   | none=>exact⟨_,rfl,_,rfl,bJ ⟨ln2,fun t nt=>q _ _ ⟨t,rfl,aa⟩ (af.new nt)⟩⟩
   | some b=>exact⟨_,rfl,_,rfl,bO ⟨_,rfl,_,rfl,_,_,rfl,rfl,ln2,fun t nt=>q _ _ ⟨t,rfl,aa⟩ (af.new nt)⟩⟩
theorem oQ {f:Addr} {fd:FuncData} (F:bS K "stretch_behind" "stretch_behind" gS f fd) (Z:Bl mg) {aA:Addr} (GA:iH K mg aA) (O_moved:Own P w K mg base "moved" 1 ["stretch", "number"] (xM K)):aW P w K mg base bQ 2 f fd ["stretches", "deed"] (rh aA):=by
  refine F.ok (k:=1) jh (fun vs H Q E h=>?_) (fun cdv A outer s H vs Q E hr h=>?_)
  . obtain⟨d,w,kvs,ks,T,dd,rfl,_⟩:=h
    rfl
  . obtain⟨d,w,kvs,ks,T,dd,rfl,hd,tb,hw,q⟩:=h
    refine⟨_,(ae (jL (EV (i:=2) (j:=3) rfl jh.nd rfl rfl (by decide) rfl rfl (aG (aI bD (pv 1) ah) (aI bD (pv 1) ah)) rfl))
      (ae (bE (aR cU (pv 2) b0 (aZ _))
      (ai (aF (bc (aG (aI bD (pv 1) ah) (aI bD (pv 1) ah)))))
      aV)
      (ae (bE (aR cU (pv 2) b0 (aZ _))
      (ai (aF (iY (gB hr) (pv 0) (aI bD (pv 1) ah) (dC (v:=.ref aA) rfl GA.qR rfl) ⟨rfl,rfl,rfl,rfl⟩)))
      aV)
      (ae (bE (aR cU (pv 2) b0 (aZ _))
      (ai (aF (ay O_moved hr (aG (iY (gB hr) (pv 0) (pv 3) (dC (v:=.ref aA) rfl GA.qR rfl) ⟨rfl,rfl,rfl,rfl⟩) (aI bD (pv 1) ah)))))
      aV)
      (ae (bE (aR cU (pv 2) b0 (aZ _))
      (ai (aF (dC (v:=.ref aA) rfl GA.qR rfl)))
      aV)
      (ai (aF (iY (gB hr) (pv 0) (pv 3) (dC (v:=.ref aA) rfl GA.qR rfl) ⟨rfl,rfl,rfl,rfl⟩)))))))),?_⟩
    cases dd
    case put x n =>
      refine⟨fun σ' H'=>σ' = [some (.ref d),some (.ref w),some (.str "put"),some (.str x)]/\H=H',⟨_,rfl,w,_,0,_,rfl,rfl,aw.of hw,eE,_,rfl,w,_,1,_,rfl,rfl,aw.of hw,en,_,_,rfl,rfl,rfl⟩,?_⟩
      rintro σ' H' ⟨rfl,rfl⟩
      refine⟨_,rfl,rfl,_,rfl,?_⟩
      refine dn (show decide (V.str "put" = V.str "put")=true by decide +kernel) ?_
      exact⟨_,rfl,w,_,2,_,rfl,rfl,aw.of hw,at2,_,rfl,w,_,2,_,rfl,rfl,aw.of hw,at2,ln2,fun t nt=>q _ _ (.inl ⟨t,rfl,aa⟩) (af.new nt)⟩
    case copy x y =>
      refine⟨fun σ' H'=>σ' = [some (.ref d),some (.ref w),some (.str "copy"),some (.str x)]/\H=H',⟨_,rfl,w,_,0,_,rfl,rfl,aw.of hw,eE,_,rfl,w,_,1,_,rfl,rfl,aw.of hw,en,_,_,rfl,rfl,rfl⟩,?_⟩
      rintro σ' H' ⟨rfl,rfl⟩
      refine⟨_,rfl,rfl,_,rfl,?_⟩
      refine bP (show decide (V.str "copy" = V.str "put")=false by decide +kernel) ?_
      refine⟨_,rfl,rfl,_,rfl,?_⟩
      refine dn (show decide (V.str "copy" = V.str "copy")=true by decide +kernel) ?_
      obtain⟨v,ev,sv⟩:=tb.getD y
      exact⟨_,rfl,d,rfl,.inl ⟨kvs,.inl hd⟩,_,rfl,w,_,2,_,rfl,rfl,aw.of hw,at2,_,v,ie.k (k:=Sum.inr y) hd,ev,q _ _ sv (af.refl H)⟩
    case add x n =>
      refine⟨fun σ' H'=>σ' = [some (.ref d),some (.ref w),some (.str "add"),some (.str x)]/\H=H',⟨_,rfl,w,_,0,_,rfl,rfl,aw.of hw,eE,_,rfl,w,_,1,_,rfl,rfl,aw.of hw,en,_,_,rfl,rfl,rfl⟩,?_⟩
      rintro σ' H' ⟨rfl,rfl⟩
      refine⟨_,rfl,rfl,_,rfl,?_⟩
      refine bP (show decide (V.str "add" = V.str "put")=false by decide +kernel) ?_
      refine⟨_,rfl,rfl,_,rfl,?_⟩
      refine bP (show decide (V.str "add" = V.str "copy")=false by decide +kernel) ?_
      refine⟨_,rfl,rfl,_,rfl,?_⟩
      refine dn (show decide (V.str "add" = V.str "add")=true by decide +kernel) ?_
      obtain⟨v,ev,sv⟩:=tb.getD x
      obtain⟨qa,rfl,hqa⟩:=sv.sq GA
      exact⟨_,rfl,d,rfl,.inl ⟨kvs,.inl hd⟩,_,rfl,_,_,ie.k (k:=Sum.inr x) hd,ev,_,rfl,w,_,2,_,rfl,rfl,aw.of hw,at2,qa,T x,n,rfl,hqa,fun v H' sh s1=>q _ _ (.inl sh) s1⟩
    case read x =>
      refine⟨fun σ' H'=>σ' = [some (.ref d),some (.ref w),some (.str "read"),some (.str x)]/\H=H',⟨_,rfl,w,_,0,_,rfl,rfl,aw.of hw,eE,_,rfl,w,_,1,_,rfl,rfl,aw.of hw,en,_,_,rfl,rfl,rfl⟩,?_⟩
      rintro σ' H' ⟨rfl,rfl⟩
      refine⟨_,rfl,rfl,_,rfl,?_⟩
      refine bP (show decide (V.str "read" = V.str "put")=false by decide +kernel) ?_
      refine⟨_,rfl,rfl,_,rfl,?_⟩
      refine bP (show decide (V.str "read" = V.str "copy")=false by decide +kernel) ?_
      refine⟨_,rfl,rfl,_,rfl,?_⟩
      refine bP (show decide (V.str "read" = V.str "add")=false by decide +kernel) ?_
      refine⟨_,rfl,rfl,_,rfl,?_⟩
      refine dn (show decide (V.str "read" = V.str "read")=true by decide +kernel) ?_
      exact q _ _ (.inr ⟨rfl,rfl⟩) (af.refl H)
    case tell x =>
      refine⟨fun σ' H'=>σ' = [some (.ref d),some (.ref w),some (.str "tell"),some (.str x)]/\H=H',⟨_,rfl,w,_,0,_,rfl,rfl,aw.of hw,eE,_,rfl,w,_,1,_,rfl,rfl,aw.of hw,en,_,_,rfl,rfl,rfl⟩,?_⟩
      rintro σ' H' ⟨rfl,rfl⟩
      refine⟨_,rfl,rfl,_,rfl,?_⟩
      refine bP (show decide (V.str "tell" = V.str "put")=false by decide +kernel) ?_
      refine⟨_,rfl,rfl,_,rfl,?_⟩
      refine bP (show decide (V.str "tell" = V.str "copy")=false by decide +kernel) ?_
      refine⟨_,rfl,rfl,_,rfl,?_⟩
      refine bP (show decide (V.str "tell" = V.str "add")=false by decide +kernel) ?_
      refine⟨_,rfl,rfl,_,rfl,?_⟩
      refine bP (show decide (V.str "tell" = V.str "read")=false by decide +kernel) ?_
      obtain⟨v,ev,sv⟩:=tb.getD x
      exact⟨_,rfl,d,rfl,.inl ⟨kvs,.inl hd⟩,_,rfl,_,v,ie.k (k:=Sum.inr x) hd,ev,q _ _ sv (af.refl H)⟩
theorem Ba {f:Addr} {fd:FuncData} (F:bS K "behind" "behind" qh f fd) (Z:Bl mg) {aA:Addr} (GA:iH K mg aA) (O_stretch_behind:Own P w K mg base "stretch_behind" 2 ["stretches", "deed"] (rh aA)) (O_facts_of:Own P w K mg base "facts_of" 1 ["stretches"] (ng aA)):aW P w K mg base bQ 3 f fd ["facts", "deeds"] nH:=by
 refine F.ok (k:=2) nY (fun vs H Q E h=>?_) (fun cdv A outer s H vs Q E hr h=>?_)
 ·obtain⟨fv,p,ws,ds,T,pool,rfl,_⟩:=h
  rfl
 ·obtain⟨fv,p,ws,ds,T,pool,rfl,hf,hp,r,tok,dok,h64,q⟩:=h
  refine⟨_,(ae (aY (i:=2) nY.nd (bo (fw rfl) rfl Z.dict oB (aB (pv 0))))
   (ae (eG PassesOwn.never rfl (ef (pv 1)) (aL (i:=3) nY.nd)
   (ai (kN (gB hr) (pv 2) (aI bD (pv 3) ah) (ay O_stretch_behind hr (aG (pv 2) (pv 3))) rfl)))
   (ai (aF (ay O_facts_of hr (aB (pv 2))))))),?_⟩
  obtain⟨fp,xs,ss,rfl,hfp,srt,hmem,rf⟩:=hf
  obtain⟨kvs,l1,l2,l3,tb⟩:=FV.tb aA srt hmem rf
  have hssl:∀x∈ss,x∈pool:=fun x hx=>tok.sup x ((hmem x).mp hx)
  refine⟨_,rfl,fp,xs,kvs,rfl,hfp,l1,l2,l3,fun d nd=>?_⟩
  have tb1:Tb aA (upd H d (.dK kvs)) kvs ss T:=tb.av fun p xs e=>af.new nd _ _ e
  refine⟨_,rfl,p,rfl,⟨_,aw.of (af.new nd _ _ hp)⟩,gU (K:=K) (a:=p) (xs:=ws) (fun i IA H'=>∃(c:Option V) (kvs':List (Key×V)) (ks':List Str),IA=[some (.ref fp),some (.ref p),some (.ref d),c]/\H' d=some (.dK kvs')/\Tb aA H' kvs' ks' (cK T (ds.take i))/\(∀y∈ks',y∈pool)/\af H H') ?_ ?_ ?_ ?_⟩
  ·exact⟨none,kvs,ss,rfl,aa,tb1,hssl,af.new nd⟩
  ·rintro i IA H1 hi ⟨c,kvs1,ks1,rfl,h1,t1,k1,s1⟩
   exact aw.of (s1 _ _ hp)
  ·rintro i x IA H1 hi ⟨c,kvs1,ks1,rfl,h1,t1,k1,s1⟩
   have hil:i<ds.length:=by
    have:=(IY.mp hi).1
    rw [r.len,ID] at this
    exact this
   have hdi:ds[i]?=some ds[i]:=by simp [hil]
   generalize ds[i]=dd at hdi
   obtain⟨v,hv,rd⟩:=r.get (i:=i) (d:=cu dd) (by rw [IZ,hdi];rfl)
   rw [hi] at hv
   cases hv
   obtain⟨dp,rfl,hdp⟩:=sD rd
   have tk:cK T (ds.take (i+1))=Ci (cK T (ds.take i)) dd:=by
    unfold cK
    rw [Ju,hdi,Option.toList_some,K3]
    rfl
   refine bu ?_
   refine⟨_,rfl,_,rfl,d,dp,kvs1,ks1,_,dd,rfl,h1,t1,s1 _ _ hdp,fun v H2 sv s2=>?_⟩
   have h2:=s2 _ _ h1
   have kl:kvs1.length=ks1.length:=by have:=congrArg JX t1.keys;simpa using this
   have kl2:=sub_len t1.nd k1
   refine⟨_,rfl,_,rfl,dp,_,1,_,rfl,rfl,aw.of (s2 _ _ (s1 _ _ hdp)),vC dd,d,_,rfl,lI.k (k:=Sum.inr (eU dd)) h2 (bp (by omega)),?_⟩
   obtain⟨ks2,t2,_,k2⟩:=(t1.av fun p xs e=>s2 _ _ e).put (eU dd) sv
   have hdn:eU dd∈pool:=(dok dd (Ja hdi)).name
   refine⟨_,_,ks2,rfl,aa,?_,(fun y hy=>((k2 y).mp hy).elim (k1 y) fun e=>e ▸ hdn),(s1.trans s2).put nd⟩
   rw [tk]
   exact t2.av fun p xs e=>by rw [ao (bU e h2 (by intro z;cases z))];exact e
  ·rintro IA H1 ⟨c,kvs1,ks1,rfl,h1,t1,k1,s1⟩
   have hwl:ws.length=ds.length:=by rw [r.len,ID]
   rw [hwl,Jn] at t1
   refine⟨_,rfl,d,kvs1,ks1,_,rfl,h1,t1,(by have:=sub_len t1.nd k1;omega),fun v H2 f2 s2=>q v H2 f2 (s1.trans s2)⟩
theorem rY {f:Addr} {fd:FuncData} (F:bS K "known_beyond" "known_beyond" iL f fd) (Z:Bl mg) {aA:Addr} (GA:iH K mg aA) (O_ways_on:Own P w K mg base "ways_on" 3 ["end"] kT) (O_known:Own P w K mg base "known" 1 ["facts", "name"] (xP aA)) (O_part_of:Own P w K mg base "part_of" 3 ["stretch", "word", "number", "side"] (xS K)) (O_with_known:Own P w K mg base "with_known" 2 ["facts", "name", "stretch"] (o7 aA)):aW P w K mg base bQ 4 f fd ["facts", "end"] (vS aA):=by
  refine F.ok (k:=3) dq (fun vs H Q E h=>?_) (fun cdv A outer s H vs Q E hr h=>?_)
  . obtain⟨fv,ea,T,e,rfl,_⟩:=h
    rfl
  . obtain⟨fv,ea,T,e,rfl,hf,he,b8,q⟩:=h
    refine⟨_,(ae (aY (i:=2) dq.nd (ay O_ways_on hr (aB (pv 1))))
      (ae (bE (aR jj (aU aS rfl Z.len bT (aB (pv 2))) ah (aZ _))
      (ai (aF (bo bh rfl Z.tuple cf (aB (eO ["way"] ["facts"] [0] rfl (ef (pv 2)) rfl (by decide +kernel) (by decide +kernel) (by decide +kernel) ⟨⟨rfl,.inl rfl,rfl⟩,True.intro⟩ (fun _ _ _ _=>(aL (i:=0) (show ((["way"]:List Str)++(["facts"]:List Str)).Nodup by decide +kernel) (hf:=Jg rfl))) (fun _ _ _ _=>d9) (fun _ _ _ _=>(pv 1)))))))
      aV)
      (ae (jL (cQ (bc (fq (aI bD (pv 1) ah) (aI bD (pv 1) ah) (aI bD (pv 1) ah))) (cx rfl (aK (aL (i:=3) dq.nd) (aK (aL (i:=4) dq.nd) (aK (aL (i:=5) dq.nd) bX))))))
      (ae (aY (i:=6) dq.nd (ay O_known hr (aG (pv 0) (pv 4))))
      (ae (gJ (i:=7) ["side"] ["stretch", "word", "number"] [6,3,5] rfl dq.nd rfl rfl rfl (ef (bc (aG gx gx))) rfl (by decide +kernel) (by decide +kernel) (by decide +kernel) ⟨⟨rfl,.inl rfl,rfl⟩,⟨⟨rfl,.inl rfl,rfl⟩,⟨⟨rfl,.inl rfl,rfl⟩,True.intro⟩⟩⟩ (fun _ _ _ _=>(aL (i:=0) (show ((["side"]:List Str)++(["stretch", "word", "number"]:List Str)).Nodup by decide +kernel) (hf:=Jg rfl))) (fun _ _ _ _=>d9) (fun _ _ _ _=>(ay O_part_of hr (wa (pv 1) (pv 2) (pv 3) (pv 0)))))
      (ai (aF (bo bh rfl Z.tuple cf (aB (eO ["part"] ["facts", "name"] [0,4] rfl (ow (pv 7)) rfl (by decide +kernel) (by decide +kernel) (by decide +kernel) ⟨⟨rfl,.inl rfl,rfl⟩,⟨⟨rfl,.inl rfl,rfl⟩,True.intro⟩⟩ (fun _ _ _ _=>(aL (i:=0) (show ((["part"]:List Str)++(["facts", "name"]:List Str)).Nodup by decide +kernel) (hf:=Jg rfl))) (fun _ _ _ _=>d9) (fun _ _ _ _=>(e6 (iU (gc (pv 0))) fh (ay O_with_known hr (fq (pv 1) (pv 2) (pv 0))))))))))))))),?_⟩
    refine⟨_,rfl,ea,e,rfl,he,fun wt H1 hw s1=>?_⟩
    have he1:=s1 _ _ he
    have hf1:=hf.same s1
    refine⟨_,rfl,wt,_,rfl,.inr (aw.of hw),_,_,rfl,rfl,_,rfl,?_⟩
    by_cases hl:(br e).length<2
    . refine dn (decide_eq_true (by rw [ID];omega)) ?_
      refine⟨_,rfl,wt,rfl,⟨_,aw.of hw⟩,fun acc na=>?_⟩
      refine kL (K:=K) (a:=wt) (xs:=(br e).map fun k=>V.int (k:Nat)) (fun i zs IB H'=>∃c:Option V,IB=[c,some fv]/\zs=JR i fv/\H' acc=some (.lst zs)/\af H1 H') ?_ ?_ ?_ ?_
      . exact⟨none,rfl,rfl,aa,af.new na⟩
      . rintro i zs IB H2 hi ⟨c,rfl,rfl,ha,s2⟩
        refine⟨aw.of (s2 _ _ hw),ha,?_⟩
        rw [Kn]
        rw [ID] at hi
        exact bp (by omega)
      . rintro i x zs IB H2 hi ⟨c,rfl,rfl,ha,s2⟩
        refine bu ?_
        refine i7 ?_
        refine bJ ?_
        refine⟨_,rfl,ha,_,rfl,?_,aa,s2.put na⟩
        rw [<-List.replicate_succ']
      . rintro zs IB H2 ⟨c,rfl,rfl,ha,s2⟩
        rw [ID] at ha
        refine⟨acc,_,rfl,.inl ⟨aO.of ha,fun t nt=>?_⟩⟩
        refine q t _ _ aa ?_ ((s1.trans s2).trans (af.new nt))
        rw [Ef hl]
        exact xT (hf1.same (s2.trans (af.new nt))) _
    . refine bP (decide_eq_false (by rw [ID];omega)) ?_
      cases e with
      | stop=>exact absurd (by show 0<2;omega) hl
      | go p=>exact absurd (by show 1<2;omega) hl
      | cC b x n p r =>
        refine⟨fun σ' H'=>σ' = [some fv,some (.ref ea),some (.ref wt),some (.str (wT b)),some (.str x),some (.int n),none,none]/\af H1 H',?_,?_⟩
        . refine⟨_,rfl,ea,_,0,_,rfl,rfl,aw.of he1,eE,_,rfl,ea,_,1,_,rfl,rfl,aw.of he1,en,_,rfl,ea,_,2,_,rfl,rfl,aw.of he1,at2,xx,fun tt htt=>?_⟩
          exact⟨tt,_,rfl,aw.of aa,rfl,_,_,rfl,_,_,rfl,_,_,rfl,rfl,rfl,af.new htt⟩
        rintro σ' H2 ⟨rfl,s2⟩
        refine⟨_,rfl,_,rfl,fv,x,T,rfl,hf1.same s2,fun sv H3 hsv s3=>?_⟩
        obtain⟨sp,rfl,hsp⟩:=hsv.sq GA
        have s13:=s2.trans s3
        refine⟨ln2,fun st hst=>⟨st,rfl,⟨_,aw.of aa⟩,fun acc na=>?_⟩⟩
        have s4:=af.new (o:=.tup [.bl true,.bl false]) hst
        have hst4:(upd H3 st (.tup [.bl true,.bl false])) st=some (.tup [.bl true,.bl false]):=aa
        generalize (upd H3 st (.tup [.bl true,.bl false]))=H4 at s4 hst4 na
        refine kL (K:=K) (a:=st) (xs:=[.bl true,.bl false]) (fun i zs IB H'=>∃c:Option V,IB=[c,some (.ref sp),some (.str (wT b)),some (.int n)]/\o8 H' zs ([dQ T b x n true,dQ T b x n false].take i)/\H' acc=some (.lst zs)/\af H4 H') ?_ ?_ ?_ ?_
        . exact⟨none,rfl,.nil,aa,af.new na⟩
        . rintro i zs IB H5 hi ⟨c,rfl,rv,ha,s5⟩
          refine⟨aw.of (s5 _ _ hst4),ha,?_⟩
          have h1:=Paired.length rv
          rw [Jm] at h1
          exact bp (by rw [h1];exact IQ (Nat.min_le_right _ _) (by show 2<=1000;decide))
        . rintro i y zs IB H5 hi ⟨c,rfl,rv,ha,s5⟩
          obtain⟨side,rfl,hsd⟩:∃side:Bool,y=.bl side/\[dQ T b x n true,dQ T b x n false][i]?=some (dQ T b x n side):=by
            match i,hi with
            | 0,hi=>cases hi;exact⟨true,rfl,rfl⟩
            | 1,hi=>cases hi;exact⟨false,rfl,rfl⟩
            | i+2,hi=>simp at hi
          refine bu ?_
          refine i7 ?_
          refine bJ ?_
          refine⟨_,rfl,_,rfl,_,rfl,_,rfl,sp,wT b,n,side,_,_,rfl,hsp.same (s4.trans s5),fun v H6 r6 s6=>?_⟩
          have ha6:=s6 _ _ ha
          refine⟨ha6,_,rfl,?_,aa,(s5.trans s6).put na⟩
          rw [Ju,hsd]
          exact eJ ((rv.same s6).put ha6) (.cons (RV.put r6 ha6) .nil)
        . rintro zs IB H5 ⟨c,rfl,rv,ha,s5⟩
          have s15:=s13.trans (s4.trans s5)
          have rv:o8 H5 zs [dQ T b x n true,dQ T b x n false]:=rv
          have rvl:zs.length=2:=Paired.length rv
          refine⟨_,rfl,acc,rfl,⟨_,aO.of ha⟩,fun ac2 na2=>?_⟩
          refine sy (K:=K) (a:=acc) (xs:=zs) (fun i us IB H'=>∃c:Option V,IB=[c,some fv,some (.str x)]/\mG H' us ((i9 T (.cC b x n p r)).take i)/\H' ac2=some (.lst us)/\af H5 H') ?_ ?_ ?_ ?_
          . exact⟨none,rfl,.nil,aa,af.new na2⟩
          . rintro i us IB H6 hi ⟨c,rfl,bv,ha2,s6⟩
            refine⟨aO.of (s6 _ _ ha),ha2,?_⟩
            have h1:=Paired.length bv
            rw [Jm] at h1
            exact bp (by rw [h1];exact IQ (Nat.min_le_right _ _) (by show 2<=1000;decide))
          . rintro i y us IB H6 hi ⟨c,rfl,bv,ha2,s6⟩
            obtain⟨rs,hrs,hry⟩:=fJ rv hi
            have hb:(i9 T (.cC b x n p r))[i]?=some (rs.map (dY T x)):=by
              show ([dQ T b x n true,dQ T b x n false].map fun z:Rs=>Option.map (dY T x) z)[i]?=_
              rw [IZ,hrs];rfl
            refine bu ?_
            refine i7 ?_
            refine bJ ?_
            cases rs with
            | none =>
              cases (show y=V.bg from hry)
              refine⟨_,rfl,_,rfl,bJ ?_⟩
              refine⟨ha2,_,rfl,?_,aa,s6.put na2⟩
              rw [Ju,hb]
              refine eJ (bv.av fun p zs e=>?_) (.cons rfl .nil)
              rw [ao (bU e ha2 (by intro z;cases z))];exact e
            | some s =>
              have hsv6:SV aA H6 y s:=RV.sv (hry.same s6)
              obtain⟨yp,rfl,hyp⟩:∃yp,y=.ref yp/\True:=by
                obtain⟨a1,b1⟩:=s
                obtain⟨yp,e,_⟩:=hry
                exact⟨yp,e,trivial⟩
              refine⟨_,rfl,_,rfl,bO ?_⟩
              refine⟨_,rfl,_,rfl,_,rfl,fv,.ref yp,x,T,s,rfl,hf1.same (s13.trans (s4.trans (s5.trans s6))),hsv6,b8,fun v H7 f7 s7=>?_⟩
              have ha7:=s7 _ _ ha2
              refine⟨ha7,_,rfl,?_,aa,(s6.trans s7).put na2⟩
              rw [Ju,hb]
              have kt:∀p zs,H7 p=some (.tup zs)->(upd H7 ac2 (.lst (us++[v]))) p=some (.tup zs):=fun p zs e=>by rw [ao (bU e ha7 (by intro z;cases z))];exact e
              exact eJ ((bv.same s7).av kt) (.cons (FV.av f7 kt) .nil)
          . rintro us IB H6 ⟨c,rfl,bv,ha2,s6⟩
            rw [rvl] at bv
            refine⟨ac2,_,rfl,.inl ⟨aO.of ha2,fun t nt=>?_⟩⟩
            exact q t _ _ aa (mG.same (show mG H6 us (i9 T (.cC b x n p r)) from bv) (af.new nt)) ((s1.trans (s15.trans s6)).trans (af.new nt))
theorem CS {f:Addr} {fd:FuncData} (F:bS K "leads" "leads" tj f fd) (Z:Bl mg) (O_known_beyond:Own P w K mg base "known_beyond" 4 ["facts", "end"] (vS aA)) (O_ways_on:Own P w K mg base "ways_on" 3 ["end"] kT):aW P w K mg base bQ 5 f fd ["facts", "end"] (sN aA):=by
 refine F.ok (k:=4) wx (fun vs H Q E h=>?_) (fun cdv A outer s H vs Q E hr h=>?_)
 ·obtain⟨fv,ea,T,e,rfl,_⟩:=h
  rfl
 ·obtain⟨fv,ea,T,e,rfl,hf,he,b8,q⟩:=h
  refine⟨_,(ae (aY (i:=2) wx.nd (ay O_known_beyond hr (aG (pv 0) (pv 1))))
   (ai (aF (bo bh rfl Z.tuple cf (aB (eO ["way", "there"] [] [] rfl (zZ rfl Z.zip (aG (ay O_ways_on hr (aB (pv 1))) (pv 2))) rfl (by decide +kernel) (by decide +kernel) (by decide +kernel) True.intro (fun _ _ _ _=>(oz (K:=K) (n:=2) rfl (cx (n:=2) rfl (aK (aL (i:=0) (show ((["way", "there"]:List Str)++([]:List Str)).Nodup by decide +kernel) (hf:=Jg rfl)) (aK (aL (i:=1) (show ((["way", "there"]:List Str)++([]:List Str)).Nodup by decide +kernel) (hf:=Jg rfl)) bX))))) (fun _ _ _ _=>(oy (iU (kB (pv 1))))) (fun _ _ _ _=>(bc (aG (pv 0) (pv 1)))))))))),?_⟩
  refine⟨_,rfl,_,rfl,fv,ea,T,e,rfl,hf,he,b8,fun bt us H1 hb bv s1=>?_⟩
  refine⟨_,rfl,ea,e,rfl,s1 _ _ he,fun wt H2 hw s2=>?_⟩
  have hb2:=s2 _ _ hb
  have bv2:=bv.same s2
  refine⟨_,rfl,wt,bt,rfl,⟨_,aw.of hw⟩,⟨_,aw.of hb2⟩,fun acc na=>?_⟩
  refine z6 (K:=K) (a:=wt) (b:=bt) (xs:=(br e).map fun k=>V.int (k:Nat)) (ys:=us) (fun i zs IB H'=>∃(c1 c2:Option V),IB=[c1,c2]/\ny H' zs ((((br e).zip (i9 T e)).take i).filterMap fun p=>p.2.map fun U=>(p.1,U))/\zs.length<=i/\H' acc=some (.lst zs)/\af H2 H') ?_ ?_ ?_ ?_
  ·exact⟨none,none,rfl,.nil,IF _,aa,af.new na⟩
  ·rintro i zs IB H3 hi ⟨c1,c2,rfl,pv,hz,ha,s3⟩
   refine⟨aw.of (s3 _ _ hw),aw.of (s3 _ _ hb2),ha,?_⟩
   have h1:i<=(br e).length:=by rw [ID] at hi;omega
   have h2:(br e).length<=2:=by cases e <;> (show _<=2) <;> simp [br]
   exact bp (by omega)
  ·rintro i x y zs IB H3 u hx hy hu ⟨c1,c2,rfl,pv,hz,ha,s3⟩
   obtain⟨k,hk,rfl⟩:∃k,(br e)[i]?=some k/\x=V.int (k:Nat):=by
    rw [IZ] at hx
    cases z:(br e)[i]? with
    | none=>rw [z] at hx;cases hx
    | some k=>rw [z] at hx;exact⟨k,rfl,(IU.inj hx).symm⟩
   obtain⟨o,ho,hyo⟩:=fJ bv2 hy
   have hnext:=AI (T:=T) hk ho
   have su:=af.new (o:=.tup [.int (k:Nat),y]) hu
   have hu4:(upd H3 u (.tup [.int (k:Nat),y])) u=some (.tup [.int (k:Nat),y]):=aa
   generalize (upd H3 u (.tup [.int (k:Nat),y]))=H4 at su hu4
   refine⟨u,_,rfl,aw.of hu4,rfl,_,_,rfl,_,_,rfl,rfl,?_⟩
   refine⟨_,rfl,_,rfl,?_⟩
   cases o with
   | none =>
    cases (show y=V.bg from hyo)
    refine bO ?_
    refine⟨_,_,rfl,?_,Nat.le_succ_of_le hz,su _ _ ha,s3.trans su⟩
    rw [hnext]
    simpa using pv.same su
   | some U =>
    obtain⟨yp,zsy,ssy,rfl,_⟩:=id hyo
    refine bJ ?_
    refine⟨_,rfl,_,rfl,ln2,fun t nt=>?_⟩
    have s5:=af.new (o:=.tup [.int (k:Nat),.ref yp]) nt
    have ht:(upd H4 t (.tup [.int (k:Nat),.ref yp])) t=some (.tup [.int (k:Nat),.ref yp]):=aa
    generalize (upd H4 t (.tup [.int (k:Nat),.ref yp]))=H5 at s5 ht
    have ha5:=s5 _ _ (su _ _ ha)
    have kt:∀p ws,H5 p=some (.tup ws)->(upd H5 acc (.lst (zs++[V.ref t]))) p=some (.tup ws):=fun p ws e=>by rw [ao (bU e ha5 (by intro z;cases z))];exact e
    refine⟨ha5,_,_,rfl,?_,(by rw [IJ];show _+1<=_;omega),aa,(s3.trans (su.trans s5)).put na⟩
    rw [hnext]
    exact eJ ((pv.same (su.trans s5)).av kt) (.cons ⟨t,.ref yp,rfl,kt _ _ ht,FV.av (FV.same hyo (s3.trans (su.trans s5))) kt⟩ .nil)
  ·rintro zs IB H3 ⟨c1,c2,rfl,pv,hz,ha,s3⟩
   have hm:min ((br e).map fun k=>V.int (k:Nat)).length us.length=((br e).zip (i9 T e)).length:=by
    rw [List.length_zip,ID,Paired.length bv2]
   rw [hm,Jn] at pv
   refine⟨acc,_,rfl,.inl ⟨aO.of ha,fun t nt=>?_⟩⟩
   exact q t zs _ aa (ny.same (show ny H3 zs (cE T e) from pv) (af.new nt)) (((s1.trans s2).trans s3).trans (af.new nt))
theorem CT {f:Addr} {fd:FuncData} (F:bS K "start" "start" tm f fd) (Z:Bl mg) (O_names_of:Own P w K mg base "names_of" 3 ["plan"] tY):aW P w K mg base bQ 4 f fd ["plan"] xU:=by
 refine F.ok (k:=3) CN (fun vs H Q E h=>?_) (fun cdv A outer s H vs Q E hr h=>?_)
 ·obtain⟨plv,ps,xs,m,rfl,_⟩:=h
  rfl
 ·obtain⟨plv,ps,xs,m,rfl,hp,bW,hx,hal,q⟩:=h
  refine⟨_,(ai (aF (bo bh rfl Z.tuple cf (aB (eO ["name"] [] [] rfl (ef (ay O_names_of hr (aB (pv 0)))) rfl (by decide +kernel) (by decide +kernel) (by decide +kernel) True.intro (fun _ _ _ _=>(aL (i:=0) (show ((["name"]:List Str)++([]:List Str)).Nodup by decide +kernel) (hf:=Jg rfl))) (fun _ _ _ _=>d9) (fun _ _ _ _=>(bc (aG (pv 0) (bc (aG ah ah)))))))))),?_⟩
  refine⟨_,rfl,plv,ps,xs,m,rfl,hp,bW,hx,hal,fun nt ss H1 hnt hperm hsort hsl s1=>?_⟩
  refine⟨nt,rfl,⟨_,aw.of hnt⟩,fun acc na=>?_⟩
  refine kL (K:=K) (a:=nt) (xs:=ss.map V.str) (fun i zs IB H'=>∃c:Option V,IB=[c]/\aP H' zs ((ss.take i).map fun x=>.tuple [.str x,.tuple [.int 0,.int 0]])/\H' acc=some (.lst zs)/\af H1 H') ?_ ?_ ?_ ?_
  ·exact⟨none,rfl,.nil,aa,af.new na⟩
  ·rintro i zs IB H2 hi ⟨c,rfl,r,ha,s2⟩
   refine⟨aw.of (s2 _ _ hnt),ha,?_⟩
   have h1:=r.len
   rw [ID,Jm] at h1
   exact bp (by omega)
  ·rintro i x zs IB H2 hi ⟨c,rfl,r,ha,s2⟩
   obtain⟨y,hy,rfl⟩:∃y,ss[i]?=some y/\x=V.str y:=by
    rw [IZ] at hi
    cases e:ss[i]? with
    | none=>rw [e] at hi;cases hi
    | some k=>rw [e] at hi;exact⟨k,rfl,(IU.inj hi).symm⟩
   refine bu ?_
   refine i7 ?_
   refine bJ ?_
   refine⟨_,rfl,ln2,fun t1 n1=>⟨ln2,fun t2 n2=>?_⟩⟩
   have q1:=af.new (o:=.tup [.int 0,.int 0]) n1
   have q2:=af.new (o:=.tup [.str y,.ref t1]) n2
   have ha3:=q2 _ _ (q1 _ _ ha)
   have kt:∀p ws,(upd (upd H2 t1 (.tup [.int 0,.int 0])) t2 (.tup [.str y,.ref t1])) p=some (.tup ws)->(upd (upd (upd H2 t1 (.tup [.int 0,.int 0])) t2 (.tup [.str y,.ref t1])) acc (.lst (zs++[V.ref t2]))) p=some (.tup ws):=fun p ws e=>by rw [ao (bU e ha3 (by intro z;cases z))];exact e
   refine⟨ha3,_,rfl,?_,aa,((s2.trans q1).trans q2).put na⟩
   rw [Ju,hy,IT]
   exact (((r.same q1 (gZ _)).same q2 (gZ _)).av kt (gZ _)).app (.tup (kt _ _ aa) (.cons (.str _) (.cons (.tup (kt _ _ (q2 _ _ aa)) (.cons (.int _) (.cons (.int _) .nil))) .nil)))
  ·rintro zs IB H2 ⟨c,rfl,r,ha,s2⟩
   rw [ID,Jn] at r
   refine⟨acc,_,rfl,.inl ⟨aO.of ha,fun t ht=>?_⟩⟩
   exact q (.ref t) ss _ (.tup aa (r.same (af.new ht) (gZ _))) hperm hsort ((s1.trans s2).trans (af.new ht))
theorem rZ {f:Addr} {fd:FuncData} (F:bS K "__init__" "Row.__init__" iM f fd) (Z:Bl mg) {C:Addr} (T:sJ K C)  : aW P w K mg base bQ 1 f fd ["self", "first"] (rE P w C):=by
 refine F.ok (k:=0) rS (fun vs H Q E h=>?_) (fun cdv A outer s H vs Q E hr h=>?_)
 ·obtain⟨r,dx,k,d0,rfl,_⟩:=h
  rfl
 ·obtain⟨r,dx,k,d0,rfl,hr0,hk,rd,nl,q⟩:=h
  refine⟨_,(ae (gf (pv 0) (cY (aB (pv 1))) rfl)
   (ai (gf (pv 0) (Cv (sO hr) (BO (pv 1) ah DT) rfl rfl (List.cons_ne_nil _ _) (by show 1<=15;decide)) rfl))),?_⟩
  refine⟨_,rfl,xw,fun m nm=>?_⟩
  have s1:=af.new (o:=.lst [.ref k]) nm
  have hm1:(upd H m (.lst [.ref k])) m=some (.lst [.ref k]):=aa
  have nrm:r≠m:=ar hr0 nm
  have rd1:=rd.same s1 nl
  generalize (upd H m (.lst [.ref k]))=H1 at s1 hm1 rd1
  have hr1:=s1 _ _ hr0
  refine⟨_,rfl,r,C,dx,_,rfl,hr1,T.cl,T.members,(by show 0<1000;decide),?_⟩
  have kt1:∀p zs,H1 p=some (.tup zs)->∀o,(upd H1 r o) p=some (.tup zs):=fun p zs e o=>by rw [ao (bU e hr1 (by intro z;cases z))];exact e
  refine fun d nd=>?_
  have ndr:r≠d:=fun z=>by rw [<-z,aa] at nd;cases nd
  have nd1:H1 d=none:=by rw [ao ndr.symm] at nd;exact nd
  have ndm:d≠m:=fun z=>by rw [z,hm1] at nd1;cases nd1
  have kt2:∀p zs,H1 p=some (.tup zs)->∀o o',(upd (upd H1 r o) d o') p=some (.tup zs):=fun p zs e o o'=>by rw [ao (ar e nd1)];exact kt1 p zs e o
  refine⟨_,rfl,aa,k,.int 0,d0,rfl,hk,rd1.av (fun p zs e=>kt2 p zs e _ _) nl,?_⟩
  refine⟨_,rfl,r,C,dx,_,rfl,(by rw [ao ndr,ao ndr,aa]),T.cl,T.places,(by rw [rD];show 1<1000;decide),?_⟩
  refine q m d _ ⟨⟨dx,by rw [aa,rD,AD]⟩,?_,?_,fun p hp=>?_⟩ (fun c o e n=>?_) nm (s1.free nd1)
  ·rw [ao nrm.symm,ao ndm.symm,ao ndm.symm,ao nrm.symm];exact hm1
  ·rw [ao ndr.symm,aa];rfl
  ·rw [IH.mp hp]
   refine⟨hk,rd1.av (fun p zs e=>?_) nl⟩
   have hpr:p≠r:=bU e hr1 (by intro z;cases z)
   have hpd:p≠d:=ar e nd1
   rw [ao hpr,ao hpd,ao hpd,ao hpr];exact e
  ·rw [ao n,ao (ar (s1 _ _ e) nd1),ao (ar (s1 _ _ e) nd1),ao n];exact s1 _ _ e
theorem r9 {f:Addr} {fd:FuncData} (F:bS K "place_of" "Row.place_of" iN f fd) (Z:Bl mg) {C:Addr} (T:sJ K C)  : aW P w K mg base bQ 1 f fd ["self", "thing"] (rF P w C):=by
  refine F.ok (k:=0) rT (fun vs H Q E h=>?_) (fun cdv A outer s H vs Q E hr h=>?_)
  . obtain⟨r,m,d,k,d0,ms,rfl,_⟩:=h
    rfl
  . obtain⟨r,m,d,k,d0,ms,rfl,A,hms,hk,rd,nl,nls,q⟩:=h
    refine⟨_,(ae (bE (aR (y6 (sO hr)) (pv 1) (cS (pv 0) rfl) (by with_unfolding_all rfl))
      (ae (cQ (aU aS rfl Z.len bT (aB (cS (pv 0) rfl))) (kC (cS (pv 0) rfl) (pv 1) (Ck (sO hr))))
      (ai (dD (gy PySem.F.plainAttrs_list PySem.F.slot_list_append PySem.F.type_list_append eI (cS (pv 0) rfl) (aB (pv 1))))))
      aV)
      (ai (aF (Ec (sO hr) (cS (pv 0) rfl) (pv 1) (fun _ _=>rfl))))),?_⟩
    obtain⟨dx,hob⟩:=A.ob
    obtain⟨n1,n2,n3⟩:=A.Im
    have hml:(ms.map fun p=>V.ref p.2).length=ms.length:=ID ..
    have hv:=lV d0 0 ms
    refine⟨_,rfl,_,rfl,r,C,dx,_,_,rfl,hob,T.cl,T.places,i0,k,d,d0,dt 0 ms,rfl,rfl,⟨A.nB,A.jX,hk,rd⟩,_,rfl,?_⟩
    by_cases hm:d0∈ms.map (·.1)
    . rw [if_pos hm] at hv
      refine bP (by rw [hv];rfl) ?_
      have e:lW ms d0 k=ms:=by unfold lW;rw [if_pos hm]
      rw [e] at q
      refine⟨_,rfl,r,C,dx,_,_,rfl,hob,T.cl,T.places,i0,_,rfl,k,d,d0,dt 0 ms,_,rfl,rfl,⟨A.nB,A.jX,hk,rd⟩,hv,?_⟩
      rw [Nat.zero_add]
      exact q H A lP.refl
    . rw [if_neg hm] at hv
      refine dn (by rw [hv];rfl) ?_
      refine⟨_,rfl,r,C,dx,_,_,rfl,hob,T.cl,T.members,ik,m,_,rfl,.inl (aO.of A.mem),_,rfl,r,C,dx,_,_,rfl,hob,T.cl,T.places,i0,_,rfl,k,d,d0,dt 0 ms,rfl,rfl,⟨A.nB,A.jX,hk,rd⟩,bp (by rw [pZ];omega),?_⟩
      have eput:putD (dt 0 ms) d0 k (.int ((ms.map fun p=>V.ref p.2).length:Nat))=dt 0 (ms++[(d0,k)]):=by
        unfold putD
        rw [hv,vT,hml,Nat.zero_add]
        rfl
      rw [eput]
      try change (_:Hp->Prop) (upd H d (ff P w d (dt 0 (ms++[(d0,k)]))))
      have hob1:(upd H d (ff P w d (dt 0 (ms++[(d0,k)])))) r=some (.ins C dx (sI (.ref m) (.ref d))):=by rw [ao n2];exact hob
      have hm1:(upd H d (ff P w d (dt 0 (ms++[(d0,k)])))) m=some (.lst (ms.map fun p=>V.ref p.2)):=by rw [ao n3.symm];exact A.mem
      refine⟨_,rfl,r,C,dx,_,_,rfl,hob1,T.cl,T.members,ik,.inl ⟨rfl,_,aO.of hm1⟩,_,rfl,m,_,_,rfl,rfl,hm1,bp (by omega),?_⟩
      have e:lW ms d0 k=ms++[(d0,k)]:=by unfold lW;rw [if_neg hm]
      rw [e] at q
      have kt:∀p zs,H p=some (.tup zs)->∀o o',(upd (upd H d o) m o') p=some (.tup zs):=fun p zs h o o'=>by
        rw [ao (bU h A.mem (by intro z;cases z)),ao (bU h A.nB (by intro z;cases z))];exact h
      have keys:∀(H':Hp),(∀p zs,H p=some (.tup zs)->H' p=some (.tup zs))->∀p∈ms++[(d0,k)],jM p.1/\aJ H' (.ref p.2) p.1:=fun H' kt' p hp=>by
        rcases IV.mp hp with hp | hp
        . exact⟨(A.keys p hp).1,(A.keys p hp).2.av kt' (nls p hp)⟩
        . rw [IH.mp hp];exact⟨hk,rd.av kt' nl⟩
      have A2:il P w C (upd (upd H d (ff P w d (dt 0 (ms++[(d0,k)])))) m (.lst ((ms.map fun p=>V.ref p.2)++[.ref k]))) r m d (ms++[(d0,k)]) :=
        ⟨⟨dx,by rw [ao n1];exact hob1⟩,by rw [aa,IT];rfl,by rw [ao n3,aa],keys _ fun p zs h=>kt p zs h _ _⟩
      have hv2:=lV d0 0 (ms++[(d0,k)])
      rw [if_pos (by rw [IT];exact Jl _ (IH.mpr rfl)),Nat.zero_add] at hv2
      obtain⟨dx2,hob2⟩:=A2.ob
      refine⟨_,rfl,r,C,dx2,_,_,rfl,hob2,T.cl,T.places,i0,_,rfl,k,d,d0,_,_,rfl,rfl,⟨A2.nB,A2.jX,hk,(A2.keys (d0,k) (Jl _ (IH.mpr rfl))).2⟩,hv2,?_⟩
      exact q _ A2 fun c o h c1 c2=>by rw [ao c1,ao c2];exact h
theorem zr {f:Addr} {fd:FuncData} (F:bS K "reached" "reached" nZ f fd) (Z:Bl mg) (O_ways_on:Own P w K mg base "ways_on" 3 ["end"] kT):aW P w K mg base bQ 4 f fd ["plan"] ug:=by
  refine bS.Il F (k:=3) iu (fun vs H Q E h=>?_) (fun cdv A outer s H vs Q E hcd hr h=>?_)
  . obtain⟨plv,ps,rfl,_⟩:=h
    rfl
  . obtain⟨plv,ps,rfl,hp,hin,hn0,hn,q⟩:=h
    refine⟨_,(ae (aY (i:=1) iu.nd (Ei hcd ah))
      (ae (aY (i:=2) iu.nd (cY (aB ah)))
      (ae (pK PassesOwn.never (Bv (pv 2) (fun _=>rfl))
      (ae (aY (i:=3) iu.nd (Fh PySem.F.plainAttrs_list PySem.F.slot_list_pop PySem.F.type_list_pop Fi (pv 2)))
      (ai (eG PassesOwn.never rfl (ef (ay O_ways_on hr (aB (aI bD (aI bD (pv 0) (pv 3)) ah)))) (aL (i:=4) iu.nd)
      (ai (bE (aR Ax (pv 4) (pv 1) (by with_unfolding_all rfl))
      (ae (dD (Ay PySem.F.slot_set_add PySem.F.type_set_add xK (pv 1) (aB (pv 4))))
      (ai (dD (gy PySem.F.plainAttrs_list PySem.F.slot_list_append PySem.F.type_list_append eI (pv 2) (aB (pv 4))))))
      aV))))))
      (ai (aF (bo bh rfl Z.tuple cf (aB (aU (mD rfl) rfl Z.sorted gX (aB (pv 1)))))))))),?_⟩
    obtain⟨pp,vs,rfl,e1,r1⟩:=aJ.bH hp
    have hvl:=r1.len
    rw [ID] at hvl
    refine fun fs nfs=>?_
    refine⟨aa,Sum.inl (0:Int),rfl,?_⟩
    try change (_:Hp->Prop) (upd (upd H fs (cI P w fs [])) fs (cI P w fs [Sum.inl (0:Int)]))
    rw [iz]
    have s1:=af.new (o:=cI P w fs [Sum.inl (0:Int)]) nfs
    have hf1:(upd H fs (cI P w fs [Sum.inl (0:Int)])) fs=some (cI P w fs (kI [0])):=aa
    generalize (upd H fs (cI P w fs [Sum.inl (0:Int)]))=H1 at s1 hf1
    refine⟨xw,fun wl nwl=>?_⟩
    have s2:=af.new (o:=.lst [.int 0]) nwl
    have hf2:=s2 _ _ hf1
    have hw2:(upd H1 wl (.lst [.int 0])) wl=some (.lst (vN [0])):=aa
    have nfw:fs≠wl:=ar hf1 nwl
    have nwH:H wl=none:=s1.free nwl
    have s12:=s1.trans s2
    generalize (upd H1 wl (.lst [.int 0]))=H2 at s2 hf2 hw2 s12
    refine⟨fun m IA H'=>∃(ks ws:List Nat) (u1 u2:Option V),IA=[some (.ref pp),some (.ref fs),some (.ref wl),u1,u2]/\H' fs=some (cI P w fs (kI ks))/\H' wl=some (.lst (vN ws))/\y9 ps ks ws/\m=2*(ps.length-ks.length)+ws.length/\ws.length<=ks.length/\af H H',⟨_,[0],[0],_,_,rfl,hf2,hw2,⟨by simp,fun k hk=>by rw [IH.mp hk];exact hn0,fun k hk=>by rw [IH.mp hk];exact .zero,by simp,fun k hk=>hk,fun k hk=>.inl hk⟩,rfl,IF _,s12⟩,?_⟩
    rintro m IA H3 ⟨ks,ws,u1,u2,rfl,hf3,hw3,sk,hm,hwk,s3⟩
    have hkn:=gY sk.nd sk.lt
    refine⟨_,rfl,!(vN ws).isEmpty,.inl ⟨_,aO.of hw3,rfl⟩,?_⟩
    rcases (show ws=[]\/∃ws' at_,ws=ws' ++ [at_] from (List.eq_nil_or_concat ws).imp id fun ⟨a,b,h⟩=>⟨a,b,by rw [h,List.concat_eq_append]⟩) with rfl | ⟨ws',at_,rfl⟩
    . refine bP rfl ?_
      refine⟨_,rfl,fs,ks.map (fun k:Nat=>(k:Int)),rfl,(by rw [hf3,xV];rfl),(by rw [ID];omega),fun l ss hperm _ nl=>?_⟩
      obtain⟨ms,rfl,hms⟩:=nF hperm
      refine⟨l,_,rfl,.inl ⟨aO.of aa,?_⟩⟩
      rw [<-AF]
      intro t nt
      refine q t ms _ aa (fun k=>(hms.mem_iff).trans (sk.all k)) (fun k hk=>sk.lt k (hms.mem_iff.mp hk)) (by rw [hms.length_eq];omega) ((s3.trans (af.new nl)).trans (af.new nt))
    . have hwl:(ws' ++ [at_]).length=ws'.length+1:=by rw [IJ];rfl
      have hev:vN (ws' ++ [at_])=vN ws' ++ [V.int (at_:Nat)]:=by show (ws' ++ [at_]).map _=_;rw [IT];rfl
      refine dn (by rw [hev];cases vN ws' <;> rfl) ?_
      have hak:at_∈ks:=sk.sub at_ (Jl _ (IH.mpr rfl))
      have hat:=sk.lt at_ hak
      have hps:ps[at_]?=some ps[at_]:=by simp [hat]
      generalize ps[at_]=pce at hps
      obtain⟨ds,e⟩:=pce
      obtain⟨p',xs',pc,da,ea,wsv,ep,e1',el',hx',e2,e3,r3,e4⟩:=iE hp hps
      cases ep
      rw [e1] at e1'
      cases e1'
      refine⟨fun σ' H'=>∃(ks' ws2:List Nat) (u1 u2:Option V),σ' = [some (.ref pp),some (.ref fs),some (.ref wl),u1,u2]/\H' fs=some (cI P w fs (kI ks'))/\H' wl=some (.lst (vN ws2))/\y9 ps ks' ws2/\2*(ps.length-ks'.length)+ws2.length<m/\ws2.length<=ks'.length/\af H H',fun σ' H' ⟨ks',ws2,u1,u2,h1,h2,h3,h4,h5,h6,h7⟩=>⟨_,h5,ks',ws2,u1,u2,h1,h2,h3,h4,rfl,h6,h7⟩,?_⟩
      refine⟨_,rfl,.inl ⟨rfl,_,aO.of hw3⟩,wl,_,.int (at_:Nat),rfl,rfl,hw3,(by rw [hev];simp),?_⟩
      have hdl:(vN (ws' ++ [at_])).dropLast=vN ws':=by rw [hev,List.dropLast_concat]
      rw [hdl]
      have hw4:(upd H3 wl (.lst (vN ws'))) wl=some (.lst (vN ws')):=aa
      have hf4:(upd H3 wl (.lst (vN ws'))) fs=some (cI P w fs (kI ks)):=by rw [ao nfw];exact hf3
      have s4:af H (upd H3 wl (.lst (vN ws'))):=s3.put nwH
      generalize (upd H3 wl (.lst (vN ws')))=H4 at hw4 hf4 s4
      refine⟨_,rfl,_,rfl,pp,_,_,_,rfl,rfl,aw.of (s4 _ _ e1),cJ hx',pc,_,1,_,rfl,rfl,aw.of (s4 _ _ e2),en,ea,e,rfl,s4 _ _ e4,fun wt H5 hwt s5=>?_⟩
      refine⟨wt,rfl,⟨_,aw.of hwt⟩,gU (K:=K) (a:=wt) (xs:=vN (br e)) (fun i IA H'=>∃(ks' add:List Nat) (u2:Option V),IA=[some (.ref pp),some (.ref fs),some (.ref wl),some (.int (at_:Nat)),u2]/\H' fs=some (cI P w fs (kI ks'))/\H' wl=some (.lst (vN (ws' ++ add)))/\ks' = ks++add/\ks'.Nodup/\(∀k∈ks',k<ps.length)/\(∀k∈add,nE ps k)/\(∀k∈(br e).take i,k∈ks')/\(∀c o,H5 c=some o->c≠fs->c≠wl->H' c=some o)) ?_ ?_ ?_ ?_⟩
      . exact⟨ks,[],_,rfl,s5 _ _ hf4,by rw [JP];exact s5 _ _ hw4,by rw [JP],sk.nd,sk.lt,(fun _ h=>nomatch h),(fun _ h=>by simp at h),fun c o h _ _=>h⟩
      . rintro i IA H6 hi ⟨ks',add,u2,rfl,h1,h2,rfl,h4,h5,h6,h7,h8⟩
        exact aw.of (h8 _ _ hwt (bU hwt (s5 _ _ hf4) (by intro z;cases z)) (bU hwt (s5 _ _ hw4) (by intro z;cases z)))
      . rintro i y IA H6 hi ⟨ks',add,u2,rfl,h1,h2,rfl,h4,h5,h6,h7,h8⟩
        obtain⟨k0,hk0,rfl⟩:∃k,(br e)[i]?=some k/\y=V.int (k:Nat):=by
          rw [IZ] at hi
          cases z:(br e)[i]? with
          | none=>rw [z] at hi;cases hi
          | some k=>rw [z] at hi;exact⟨k,rfl,(IU.inj hi).symm⟩
        have hk0m:=Ja hk0
        have hk0b:=xW hin hps k0 hk0m
        have htk:(br e).take (i+1)=(br e).take i++[k0]:=by rw [Ju,hk0];rfl
        refine bu ?_
        refine⟨_,rfl,_,rfl,fs,_,Sum.inl (k0:Int),rfl,h1,rfl,fun b hb=>⟨_,rfl,?_⟩⟩
        rw [vV] at hb
        by_cases hm0:k0∈ks++add
        . refine bP (by rw [hb.mpr hm0];rfl) ?_
          refine⟨ks++add,add,_,rfl,h1,h2,rfl,h4,h5,h6,fun k hk=>?_,h8⟩
          rw [htk] at hk
          rcases IV.mp hk with hk | hk
          . exact h7 k hk
          . rw [IH.mp hk];exact hm0
        . refine dn (by rw [Lk.mpr fun z=>hm0 (hb.mp z)];rfl) ?_
          have hfew:=gY h4 h5
          refine⟨_,rfl,⟨fs,_,rfl,h1⟩,_,rfl,fs,_,Sum.inl (k0:Int),rfl,rfl,h1,(by rw [ID];exact Ko (show (ks++add).length+1<=1002 by omega) (by decide)),?_⟩
          rw [AL,show LS.putIn (ks++add) k0=ks++(add++[k0]) by unfold LS.putIn;rw [if_neg hm0,Jw]]
          try change (_:Hp->Prop) (upd H6 fs (cI P w fs (kI (ks++(add++[k0])))))
          have h27:(upd H6 fs (cI P w fs (kI (ks++(add++[k0]))))) wl=some (.lst (vN (ws' ++ add))):=by rw [ao nfw.symm];exact h2
          have hal:(ws' ++ add).length<=200:=by
            rw [IJ] at hfew ⊢
            omega
          refine⟨_,rfl,.inl ⟨rfl,_,aO.of h27⟩,_,rfl,wl,_,_,rfl,rfl,h27,bp (by rw [ID];omega),?_⟩
          refine⟨_,add++[k0],_,rfl,by rw [ao nfw,aa],?_,rfl,?_,?_,?_,?_,fun c o h c1 c2=>by rw [ao c2,ao c1];exact h8 c o h c1 c2⟩
          . rw [aa]
            show _=some (HO.lst ((ws' ++ (add++[k0])).map _))
            rw [<-Jw,IT]
            rfl
          . rw [<-Jw,Kh]
            refine⟨h4,by simp,fun x hx y hy z=>?_⟩
            rw [IH.mp hy] at z
            exact hm0 (z ▸ hx)
          . intro k hk
            rw [<-Jw] at hk
            rcases IV.mp hk with hk | hk
            . exact h5 k hk
            . rw [IH.mp hk];exact hk0b
          . intro k hk
            rcases IV.mp hk with hk | hk
            . exact h6 k hk
            . rw [IH.mp hk];exact .step (sk.FL at_ hak) hps hk0m
          . intro k hk
            rw [htk] at hk
            rw [<-Jw]
            rcases IV.mp hk with hk | hk
            . exact Jz _ (h7 k hk)
            . exact Jl _ hk
      . rintro IA H6 ⟨ks',add,u2,rfl,h1,h2,rfl,h4,h5,h6,h7,h8⟩
        rw [show (vN (br e)).length=(br e).length from ID ..,Jn] at h7
        have hfew:=gY h4 h5
        refine⟨ks++add,ws' ++ add,_,_,rfl,h1,h2,⟨h4,h5,fun k hk=>?_,Jz _ sk.zero,fun k hk=>?_,fun k hk=>?_⟩,?_,?_,fun c o h=>?_⟩
        . rcases IV.mp hk with hk | hk
          . exact sk.FL k hk
          . exact h6 k hk
        . rcases IV.mp hk with hk | hk
          . exact Jz _ (sk.sub k (Jz _ hk))
          . exact Jl _ hk
        . rcases IV.mp hk with hk | hk
          . by_cases hka:k=at_
            . subst hka
              refine .inr fun ds' e' he' j hj=>?_
              rw [hps] at he'
              cases he'
              exact h7 j hj
            . rcases sk.done k hk with hw | hd
              . rcases IV.mp hw with hw | hw
                . exact .inl (Jz _ hw)
                . exact absurd (IH.mp hw) hka
              . exact .inr fun ds' e' he' j hj=>Jz _ (hd ds' e' he' j hj)
          . exact .inl (Jl _ hk)
        . rw [IJ] at hfew ⊢
          rw [IJ] at ⊢
          rw [hwl] at hm
          omega
        . rw [IJ,IJ]
          omega
        . exact h8 c o (s5 _ _ (s4 _ _ h)) (ar h nfs) (ar h nwH)
theorem CU {f:Addr} {fd:FuncData} (F:bS K "heads" "heads" tq f fd) (Z:Bl mg) (O_reached:Own P w K mg base "reached" 4 ["plan"] ug) (O_ways_on:Own P w K mg base "ways_on" 3 ["end"] kT):aW P w K mg base bQ 5 f fd ["plan"] xX:=by
 refine F.ok (k:=4) mj (fun vs H Q E h=>?_) (fun cdv A outer s H vs Q E hr h=>?_)
 ·obtain⟨plv,ps,rfl,_⟩:=h
  rfl
 ·obtain⟨plv,ps,rfl,hp,hin,hn0,hn,q⟩:=h
  refine⟨_,(ae (aY (i:=1) mj.nd (yE Av rfl Z.set Au))
   (ae (eG PassesOwn.never rfl (ef (ay O_reached hr (aB (pv 0)))) (aL (i:=2) mj.nd)
   (ai (eG PassesOwn.never rfl (ef (ay O_ways_on hr (aB (aI bD (aI bD (pv 0) (pv 2)) ah)))) (aL (i:=3) mj.nd)
   (ai (bE (aR ox (pv 3) (pv 2) (aZ _))
   (ai (dD (Ay PySem.F.slot_set_add PySem.F.type_set_add xK (pv 1) (aB (pv 3)))))
   aV)))))
   (ai (aF (bo bh rfl Z.tuple cf (aB (aU (mD rfl) rfl Z.sorted gX (aB (pv 1))))))))),?_⟩
  obtain⟨pp,vs,rfl,e1,r1⟩:=aJ.bH hp
  have hvl:=r1.len
  rw [ID] at hvl
  refine⟨rfl,fun fs nfs=>?_⟩
  try change (_:Hp->Prop) (upd H fs (cI P w fs []))
  have s1:=af.new (o:=cI P w fs []) nfs
  have hf1:(upd H fs (cI P w fs [])) fs=some (cI P w fs (kI [])):=aa
  generalize (upd H fs (cI P w fs []))=H1 at s1 hf1
  refine⟨_,rfl,_,ps,rfl,hp.same s1 (aH ps),hin,hn0,hn,fun t ks H2 ht hks hlt hkl s2=>?_⟩
  have hf2:=s2 _ _ hf1
  have s12:=s1.trans s2
  refine⟨t,rfl,⟨_,aw.of ht⟩,gU (K:=K) (a:=t) (xs:=vN ks) (fun i IA H'=>∃(hs:List Nat) (u1 u2:Option V),IA=[some (.ref pp),some (.ref fs),u1,u2]/\H' fs=some (cI P w fs (kI hs))/\hs.Nodup/\(∀k∈hs,k<ps.length)/\(∀k,k∈hs↔∃j∈ks.take i,∃ds e,ps[j]?=some (ds,e)/\k∈br e/\k<=j)/\(∀c o,H2 c=some o->c≠fs->H' c=some o)) ?_ ?_ ?_ ?_⟩
  ·exact⟨[],_,_,rfl,hf2,Kq,(fun _ h=>nomatch h),fun k=>⟨fun h=>(nomatch h),fun ⟨j,hj,_⟩=>(by simp at hj)⟩,fun c o h _=>h⟩
  ·rintro i IA H3 hi ⟨hs,u1,u2,rfl,h1,h2,h3,h4,h5⟩
   exact aw.of (h5 _ _ ht (bU ht hf2 (by intro z;cases z)))
  ·rintro i y IA H3 hi ⟨hs,u1,u2,rfl,h1,h2,h3,h4,h5⟩
   obtain⟨at_,hat,rfl⟩:∃k,ks[i]?=some k/\y=V.int (k:Nat):=by
    rw [IZ] at hi
    cases z:ks[i]? with
    | none=>rw [z] at hi;cases hi
    | some k=>rw [z] at hi;exact⟨k,rfl,(IU.inj hi).symm⟩
   have hatl:=hlt at_ (Ja hat)
   have hps:ps[at_]?=some ps[at_]:=by simp [hatl]
   generalize ps[at_]=pce at hps
   obtain⟨ds,e⟩:=pce
   obtain⟨p',xs',pc,da,ea,wsv,ep,e1',el',hx',e2,e3,r3,e4⟩:=iE hp hps
   cases ep
   rw [e1] at e1'
   cases e1'
   have k3:∀p zs,H p=some (.tup zs)->H3 p=some (.tup zs):=fun p zs h=>h5 _ _ (s12 _ _ h) (bU (s12 _ _ h) hf2 (by intro z;cases z))
   refine bu ?_
   refine⟨_,rfl,_,rfl,pp,_,_,_,rfl,rfl,aw.of (k3 _ _ e1),cJ hx',pc,_,1,_,rfl,rfl,aw.of (k3 _ _ e2),en,ea,e,rfl,k3 _ _ e4,fun wt H5 hwt s5=>?_⟩
   refine⟨wt,rfl,⟨_,aw.of hwt⟩,gU (K:=K) (a:=wt) (xs:=vN (br e)) (fun j IA H'=>∃(hs':List Nat) (u2:Option V),IA=[some (.ref pp),some (.ref fs),some (.int (at_:Nat)),u2]/\H' fs=some (cI P w fs (kI hs'))/\hs'.Nodup/\(∀k∈hs',k<ps.length)/\(∀k,k∈hs'↔k∈hs\/(k∈(br e).take j/\k<=at_))/\(∀c o,H5 c=some o->c≠fs->H' c=some o)) ?_ ?_ ?_ ?_⟩
   ·exact⟨hs,_,rfl,s5 _ _ h1,h2,h3,fun k=>⟨.inl,fun h=>h.elim id fun ⟨z,_⟩=>by simp at z⟩,fun c o h _=>h⟩
   ·rintro j IA H6 hj ⟨hs',u2,rfl,g1,g2,g3,g4,g5⟩
    exact aw.of (g5 _ _ hwt (bU hwt (s5 _ _ h1) (by intro z;cases z)))
   ·rintro j y IA H6 hj ⟨hs',u2,rfl,g1,g2,g3,g4,g5⟩
    obtain⟨k0,hk0,rfl⟩:∃k,(br e)[j]?=some k/\y=V.int (k:Nat):=by
     rw [IZ] at hj
     cases z:(br e)[j]? with
     | none=>rw [z] at hj;cases hj
     | some k=>rw [z] at hj;exact⟨k,rfl,(IU.inj hj).symm⟩
    have hk0m:=Ja hk0
    have hk0b:=xW hin hps k0 hk0m
    have htk:(br e).take (j+1)=(br e).take j++[k0]:=by rw [Ju,hk0];rfl
    refine bu ?_
    refine⟨_,rfl,_,rfl,_,_,rfl,rfl,_,rfl,?_⟩
    refine dW (fun hc=>?_) (fun hc=>?_)
    ·have hle:k0<=at_:=by have:=of_decide_eq_true hc;omega
     have hfew:=gY g2 g3
     refine⟨_,rfl,⟨fs,_,rfl,g1⟩,_,rfl,fs,_,Sum.inl (k0:Int),rfl,rfl,g1,(by rw [ID];exact Ko (show hs'.length+1<=1002 by omega) (by decide)),?_⟩
     rw [AL]
     try change (_:Hp->Prop) (upd H6 fs (cI P w fs (kI (LS.putIn hs' k0))))
     refine⟨LS.putIn hs' k0,_,rfl,aa,Co g2,fun k hk=>?_,fun k=>?_,fun c o h c1=>by rw [ao c1];exact g5 c o h c1⟩
     ·rcases LS.iZ.mp hk with hk | hk
      ·exact g3 k hk
      ·rw [hk];exact hk0b
     ·rw [LS.iZ,g4,htk]
      constructor
      ·rintro ((h | ⟨h,h'⟩) | rfl)
       ·exact .inl h
       ·exact .inr ⟨Jz _ h,h'⟩
       ·exact .inr ⟨Jl _ (IH.mpr rfl),hle⟩
      ·rintro (h | ⟨h,h'⟩)
       ·exact .inl (.inl h)
       ·rcases IV.mp h with h | h
        ·exact .inl (.inr ⟨h,h'⟩)
        ·exact .inr (IH.mp h)
    ·have hle:¬k0<=at_:=fun z=>hc (decide_eq_true (by omega))
     refine⟨hs',_,rfl,g1,g2,g3,fun k=>?_,g5⟩
     rw [g4,htk]
     constructor
     ·rintro (h | ⟨h,h'⟩)
      ·exact .inl h
      ·exact .inr ⟨Jz _ h,h'⟩
     ·rintro (h | ⟨h,h'⟩)
      ·exact .inl h
      ·rcases IV.mp h with h | h
       ·exact .inr ⟨h,h'⟩
       ·rw [IH.mp h] at h';exact absurd h' hle
   ·rintro IA H6 ⟨hs',u2,rfl,g1,g2,g3,g4,g5⟩
    rw [show (vN (br e)).length=(br e).length from ID ..,Jn] at g4
    refine⟨hs',_,_,rfl,g1,g2,g3,fun k=>?_,fun c o h c1=>g5 c o (s5 _ _ (h5 c o h c1)) c1⟩
    rw [g4,h4,Ju,hat]
    constructor
    ·rintro (⟨j,hj,r⟩ | ⟨h,h'⟩)
     ·exact⟨j,Jz _ hj,r⟩
     ·exact⟨at_,Jl _ (IH.mpr rfl),ds,e,hps,h,h'⟩
    ·rintro⟨j,hj,ds',e',hp',h,h'⟩
     rcases IV.mp hj with hj | hj
     ·exact .inl ⟨j,hj,ds',e',hp',h,h'⟩
     ·have hj:j=at_:=IH.mp hj
      subst hj
      rw [hps] at hp'
      cases hp'
      exact .inr ⟨h,h'⟩
  ·rintro IA H3 ⟨hs,u1,u2,rfl,h1,h2,h3,h4,h5⟩
   rw [show (vN ks).length=ks.length from ID ..,Jn] at h4
   have hfew:=gY h2 h3
   refine⟨_,rfl,fs,hs.map (fun k:Nat=>(k:Int)),rfl,(by rw [h1,xV];rfl),(by rw [ID];omega),fun l ss hperm _ nl=>?_⟩
   obtain⟨ms,rfl,hms⟩:=nF hperm
   refine⟨l,_,rfl,.inl ⟨aO.of aa,?_⟩⟩
   rw [<-AF]
   intro t' nt
   have s3:af H H3:=fun c o h=>h5 c o (s12 c o h) (ar h nfs)
   refine q t' ms _ aa (fun k=>(hms.mem_iff).trans ((h4 k).trans ?_)) (by rw [hms.length_eq];omega) ((s3.trans (af.new nl)).trans (af.new nt))
   constructor
   ·rintro⟨j,hj,ds,e,r1,r2,r3⟩
    exact⟨j,ds,e,(hks j).mp hj,r1,r2,r3⟩
   ·rintro⟨j,ds,e,hj,r1,r2,r3⟩
    exact⟨j,(hks j).mpr hj,ds,e,r1,r2,r3⟩
theorem w5 {f:Addr} {fd:FuncData} (F:bS K "copy_for" "copy_for" ml f fd) (Z:Bl mg)  : aW P w K mg base bQ 1 f fd ["lead", "tops", "places", "most"] (ui P w):=by
  refine F.ok (k:=0) pG (fun vs H Q E h=>?_) (fun cdv A outer s H vs Q E hr h=>?_)
  . obtain⟨la,tp,d,most,k,T,dl,hs,fv,ms,cs,tops,rfl,_⟩:=h
    rfl
  . obtain⟨la,tp,d,most,k,T,dl,hs,fv,ms,cs,tops,rfl,hla,rl,cd,lay,htp,hts,hd,jX,cc,q⟩:=h
    refine⟨_,(ae (aY (i:=4) pG.nd (aI bD (pv 0) ah))
      (ae (bE (aR jZ (pv 4) (pv 1) (by with_unfolding_all rfl))
      (ai (aF (bc (aG (pv 4) (bc dz)))))
      aV)
      (ae (bE (PW.pt (yq (aR (Eb (sO hr)) (pv 0) (pv 2) (by with_unfolding_all rfl)) (vd (aR jj (aU y8 rfl Z.len bT (aB (pv 2))) (pv 3) (aZ _)))))
      (ai (aF (pv 0)))
      aV)
      (ai (aF (bc (aG (pv 4) (bc dz)))))))),?_⟩
    refine⟨_,rfl,la,_,0,_,rfl,rfl,aw.of hla,eE,?_⟩
    have out:bC tops most cs (k,T)=(k,T0)->∀t1 t2,H t1=none->(upd H t1 (.tup [])) t2=none->Q (.ref t2) (upd (upd H t1 (.tup [])) t2 (.tup [.int (k:Nat),.ref t1])):=fun e t1 t2 n1 n2=>by
      rw [e] at q
      have q2:=af.new (o:=.tup [.int (k:Nat),.ref t1]) n2
      exact q t2 (.tuple [.int (k:Nat),.tuple []]) _ (.tup aa (.cons (.int _) (.cons (.tup (q2 _ _ aa) .nil) .nil))) ⟨_,FD.zero,rfl⟩ ((af.new n1).trans q2)
    refine⟨_,rfl,_,rfl,tp,_,rfl,.inr (aw.of htp),rfl,xO _,_,rfl,?_⟩
    rw [show (if false=true then !iW (.int (k:Nat)) (vN hs) else iW (.int (k:Nat)) (vN hs))=decide (k∈hs) from sL k hs]
    by_cases hk:k∈hs
    . refine dn (decide_eq_true hk) ?_
      exact⟨_,rfl,(by show 0<=sizeLine;decide),fun t1 n1=>⟨ln2,fun t2 n2=>out (by unfold bC;rw [if_pos ((hts k).mp hk)]) t1 t2 n1 n2⟩⟩
    . refine bP (decide_eq_false hk) ?_
      have hnt:¬tops k:=fun z=>hk ((hts k).mpr z)
      obtain⟨hmem,_⟩:=cd.mem cc
      have hcl:(ms.map (·.1)).length=cs.length:=Paired.length cc
      have hml:ms.length=cs.length:=by rw [<-hcl,ID]
      have hv:=lV dl 0 ms
      refine⟨_,rfl,_,rfl,la,d,dl,dt 0 ms,rfl,rfl,⟨hd,jX,cd.key lay,rl⟩,_,rfl,?_⟩
      by_cases hin:(k,T)∈cs
      . rw [if_pos (hmem.mpr hin)] at hv
        refine dn (by rw [hv];rfl) (bJ ?_)
        exact⟨_,rfl,q la dl H rl (by unfold bC;rw [if_neg hnt,if_pos (.inl hin)];exact cd) (af.refl H)⟩
      . rw [if_neg (fun z=>hin (hmem.mp z))] at hv
        refine bP (by rw [hv];rfl) ?_
        refine⟨_,rfl,d,dt 0 ms,rfl,hd,_,rfl,_,_,rfl,rfl,_,rfl,?_⟩
        rw [pZ]
        refine dW (fun hc=>?_) (fun hc=>?_)
        . have hlt:cs.length<most:=by have:=of_decide_eq_true hc;omega
          exact⟨_,rfl,q la dl H rl (by unfold bC;rw [if_neg hnt,if_pos (.inr hlt)];exact cd) (af.refl H)⟩
        . have hlt:¬cs.length<most:=fun z=>hc (decide_eq_true (by omega))
          exact⟨_,rfl,(by show 0<=sizeLine;decide),fun t1 n1=>⟨ln2,fun t2 n2=>out (by unfold bC;rw [if_neg hnt,if_neg (fun z=>z.elim hin hlt)]) t1 t2 n1 n2⟩⟩
theorem Bb {f:Addr} {fd:FuncData} (F:bS K "end_to" "end_to" qi f fd) (Z:Bl mg) (O_without_ways:Own P w K mg base "without_ways" 4 ["end"] ue):aW P w K mg base bQ 5 f fd ["end", "ways"] sP:=by
 refine F.ok (k:=4) A1 (fun vs H Q E h=>?_) (fun cdv A outer s H vs Q E hr h=>?_)
 ·obtain⟨ea,l,e,ns,rfl,_⟩:=h
  rfl
 ·obtain⟨ea,l,e,ns,rfl,he,hl,hns,hn2,q⟩:=h
  refine⟨_,(ae (bE (aR cU (aU aS rfl Z.len bT (aB (pv 1))) ah (aZ _))
   (ai (aF (bc (aG b0 (aI bG (pv 1) ah)))))
   aV)
   (ai (aF (bf kR (ay O_without_ways hr (aB (pv 0))) (bo bh rfl Z.tuple cf (aB (pv 1))))))),?_⟩
  refine⟨_,rfl,l,_,rfl,.inl (aO.of hl),rfl,_,rfl,?_⟩
  have hlen:(vN ns).length=ns.length:=ID ..
  by_cases h1:ns.length=1
  ·obtain⟨a,rfl⟩:∃a,ns=[a]:=List.length_eq_one_iff.mp h1
   refine dn (decide_eq_true rfl) ?_
   exact⟨_,rfl,l,_,0,_,rfl,rfl,aO.of hl,eE,ln2,fun t nt=>q t _ aa (af.new nt)⟩
  ·refine bP (decide_eq_false fun z=>h1 (by have:=V.int.inj z;omega)) ?_
   have hns:=hns.resolve_left h1
   refine⟨_,rfl,ea,e,rfl,he,fun t H1 ht s1=>⟨_,rfl,l,_,rfl,.inl ⟨aO.of (s1 _ _ hl),fun t2 nt2=>?_⟩⟩⟩
   have q2:=af.new (o:=.tup (vN ns)) nt2
   have hhl:(lQ e).length<=3:=by cases e <;> simp [lQ]
   refine⟨t,t2,_,_,rfl,rfl,q2 _ _ ht,aa,Jo (bp (by omega)),fun t3 H3 ht3 s3=>?_⟩
   refine q t3 H3 ?_ ((s1.trans q2).trans s3)
   have e1:gQ e ns=Cm e ns:=by
    match ns,h1 with
    | [],_=>rfl
    | [a],h=>exact absurd rfl h
    | _::_::_,_=>rfl
   rw [e1,Cn hns]
   exact ht3
theorem w6 {f:Addr} {fd:FuncData} (F:bS K "led_past" "led_past" mn f fd) (Z:Bl mg) {tk_MOST_TO_LEAD:Tok} (G_MOST_TO_LEAD:mg "MOST_TO_LEAD" = some (.int 60 tk_MOST_TO_LEAD)) {cP cM cN cR cL cO:Addr} (GX:zh K mg cP cM cN cR cL cO) {C:Addr} (T:sJ K C) (O_heads:Own P w K mg base "heads" 5 ["plan"] xX) (O_start:Own P w K mg base "start" 4 ["plan"] xU) (O_Row___init__:vz P w K mg base C "Row" 1 ["self", "first"] (rE P w C)) (O_Row_place_of:iF P w K mg base C "place_of" 1 ["self", "thing"] (rF P w C)) (O_behind:Own P w K mg base "behind" 3 ["facts", "deeds"] nH) (O_leads:Own P w K mg base "leads" 5 ["facts", "end"] (sN aA)) (O_copy_for:Own P w K mg base "copy_for" 1 ["lead", "tops", "places", "most"] (ui P w)) (O_end_to:Own P w K mg base "end_to" 5 ["end", "ways"] sP):aW P w K mg base (fD P w) 7 f fd ["plan", "most"] (Dn (fS P w C) (uC cM)):=by
  refine F.Hb (k:=6) bI (fun vs H Q E h=>?_) (fun cdv A outer s H vs Q E hr h=>?_)
  . rcases h with h | h
    . obtain⟨plv,ps,xs,most,rfl,_⟩:=h
      rfl
    . obtain⟨p,xs,m,rfl,_⟩:=h
      rfl
  . rcases h with h | h
    . obtain⟨plv,ps,xs,most,rfl,hp,bW,gm,hx10,hn0,hn,hm1,hm3,q⟩:=h
      refine⟨_,(ae (bE (aR qu (aU aS rfl Z.len bT (aB (pv 0))) (dC (v:=.int 60) rfl G_MOST_TO_LEAD ⟨_,rfl⟩) (aZ _))
      (ai (wq GX.tM GX.gM (aB (AY (aU aS rfl Z.len bT (aB (pv 0)))))))
      aV)
      (fZ.oW (ae (aY (i:=2) bI.nd (ay O_heads hr (aB (pv 0))))
      (ae (jL (aY (i:=3) bI.nd (kP O_Row___init__ (hr.mono (by decide)) rfl (aB (bc (aG ah (e6 (aR jZ ah (pv 2) (by with_unfolding_all rfl)) (bc dz) (ay O_start hr (aB (pv 0))))))))))
      (ae (aY (i:=4) bI.nd (cY dz))
      (ae (pK PassesOwn.never (aR jj (aU aS rfl Z.len bT (aB (pv 4))) (aU aS rfl Z.len bT (aB (cS (pv 3) rfl))) (aZ _))
      (ae (cQ (aI bG (cS (pv 3) rfl) (aU aS rfl Z.len bT (aB (pv 4)))) (cx rfl (aK (aL (i:=5) bI.nd) (aK (aL (i:=6) bI.nd) bX))))
      (ae (cQ (aI bD (pv 0) (pv 5)) (cx rfl (aK (aL (i:=7) bI.nd) (aK (aL (i:=8) bI.nd) bX))))
      (ae (aY (i:=9) bI.nd (ay O_leads hr (aG (ay O_behind hr (aG (pv 6) (pv 7))) (pv 8))))
      (ae (gJ (i:=10) ["lead"] ["copies", "tops", "most"] [3,2,1] rfl bI.nd rfl rfl rfl (ef (pv 9)) rfl (by decide +kernel) (by decide +kernel) (by decide +kernel) ⟨⟨rfl,.inl rfl,rfl⟩,⟨⟨rfl,.inl rfl,rfl⟩,⟨⟨rfl,.inl rfl,rfl⟩,True.intro⟩⟩⟩ (fun _ _ _ _=>(aL (i:=0) (show ((["lead"]:List Str)++(["copies", "tops", "most"]:List Str)).Nodup by decide +kernel) (hf:=Jg rfl))) (fun _ _ _ _=>d9) (fun _ _ _ _=>(kO O_Row_place_of (pv 1) (hr.mono (by decide)) (aB (ay O_copy_for hr (wa (pv 0) (pv 2) (oH (K:=K) rfl (pv 1) rfl) (pv 3)))))))
      (ai (dD (gy PySem.F.plainAttrs_list PySem.F.slot_list_append PySem.F.type_list_append eI (pv 4) (aB (bc (aG (pv 7) (ay O_end_to hr (aG (pv 8) (pv 10))))))))))))))
      (ai (aF (bc (aG (bo bh rfl Z.tuple cf (aB (pv 4))) (bo bh rfl Z.tuple cf (aB (cS (pv 3) rfl))))))))))))),?_⟩
      obtain⟨pp,vs,rfl,e1,r1⟩:=aJ.bH hp
      have hvl:=r1.len
      rw [ID] at hvl
      have hin:=bW.Fx
      refine⟨_,rfl,pp,_,rfl,.inr (aw.of e1),_,_,rfl,rfl,_,rfl,?_⟩
      refine bP (decide_eq_false (by omega)) ?_
      refine⟨_,rfl,_,ps,rfl,hp,hin,hn0,hn,fun tp hs H1 htp hhs hsl s1=>?_⟩
      have hp1:=hp.same s1 (aH ps)
      have hal:(ba ps).length<=4000:=by
        have h1:=Eg bW
        have h2:ps.length*(2*12+1)<=60*25:=Nat.mul_le_mul hn (IF 25)
        omega
      refine⟨fun σ' H'=>∃(r m d ka:Addr) (d0:PyData),σ' = [some (.ref pp),some (.int (most:Nat)),some (.ref tp),some (.ref r),none,none,none,none,none,none,none]/\il P w C H' r m d [(d0,ka)]/\CD (iy ps) d0/\H m=none/\H d=none/\H r=none/\af H1 H',?_,?_⟩
      . have layc:pY (iy ps).2:=by
          unfold iy
          split
          . exact cV.zero.lay gm
          . exact (p7 bW).lay gm
        refine⟨_,rfl,tp,_,rfl,.inr (aw.of htp),rfl,xO _,_,rfl,?_⟩
        rw [show (if false=true then !iW (.int 0) (vN hs) else iW (.int 0) (vN hs))=decide (0∈hs) from sL 0 hs]
        by_cases h0':0∈hs
        . have h0:=(hhs 0).mp h0'
          refine dn (decide_eq_true h0') ?_
          refine⟨(by show 0<=sizeLine;decide),fun t1 n1=>⟨ln2,fun ka nka=>fun r dx nx ndx nex=>?_⟩⟩
          have cd:=(show CD (iy ps) (.tuple [.int ((0:Nat):Int),.tuple []]) from by unfold iy;rw [if_pos h0];exact⟨_,FD.zero,rfl⟩)
          have nl:=cd.j6
          have q2:=af.new (o:=.tup [.int 0,.ref t1]) nka
          have s3:=(af.new (o:=.tup []) n1).trans q2
          have rd3:aJ (upd (upd H1 t1 (.tup [])) ka (.tup [.int 0,.ref t1])) (.ref ka) (.tuple [.int ((0:Nat):Int),.tuple []]):=.tup aa (.cons (.int _) (.cons (.tup (q2 _ _ aa) .nil) .nil))
          generalize (upd (upd H1 t1 (.tup [])) ka (.tup [.int 0,.ref t1]))=H3 at q2 s3 rd3 nx ndx
          have s0:af H3 (upd (upd H3 dx (.own r)) r (.ins C dx [])):=fun b o e=>by
            rw [ao (ar e nx),ao (ar e ndx)]
            exact e
          refine⟨r,dx,ka,_,rfl,aa,cd.key layc,rd3.same s0 nl,nl,fun m d H4 A4 k4 nm nd=>⟨rfl,?_⟩⟩
          exact⟨r,m,d,ka,_,rfl,A4,cd,s1.free (s3.free (s0.free nm)),s1.free (s3.free (s0.free nd)),s1.free (s3.free nx),fun c o e=>k4 c o (s0 c o (s3 c o e)) (ar (s3 c o e) nx)⟩
        . have h0:¬cX ps 0:=fun z=>h0' ((hhs 0).mpr z)
          refine bP (decide_eq_false h0') ?_
          refine⟨_,rfl,_,ps,xs,12,rfl,hp1,bW,(by omega),hal,fun v ss H2 rv hperm hsort s3'=>⟨ln2,fun ka nka=>fun r dx nx ndx nex=>?_⟩⟩
          have cd:=(show CD (iy ps) (.tuple [.int ((0:Nat):Int),nz ss]) from by unfold iy;rw [if_neg h0];exact⟨_,Cw hperm hsort,rfl⟩)
          have nl:=cd.j6
          have q2:=af.new (o:=.tup [.int 0,v]) nka
          have s3:=s3'.trans q2
          have rd3:aJ (upd H2 ka (.tup [.int 0,v])) (.ref ka) (.tuple [.int ((0:Nat):Int),nz ss]):=.tup aa (.cons (.int _) (.cons (rv.same q2 (gZ ss)) .nil))
          generalize (upd H2 ka (.tup [.int 0,v]))=H3 at q2 s3 rd3 nx ndx
          have s0:af H3 (upd (upd H3 dx (.own r)) r (.ins C dx [])):=fun b o e=>by
            rw [ao (ar e nx),ao (ar e ndx)]
            exact e
          refine⟨r,dx,ka,_,rfl,aa,cd.key layc,rd3.same s0 nl,nl,fun m d H4 A4 k4 nm nd=>⟨rfl,?_⟩⟩
          exact⟨r,m,d,ka,_,rfl,A4,cd,s1.free (s3.free (s0.free nm)),s1.free (s3.free (s0.free nd)),s1.free (s3.free nx),fun c o e=>k4 c o (s0 c o (s3 c o e)) (ar (s3 c o e) nx)⟩
      rintro σ' H2 ⟨r,m,d,ka,d0,rfl,A2,cd0,nm,nd,nr,s2⟩
      have s12:=s1.trans s2
      have htp2:=s2 _ _ htp
      have cc2:o9 [(d0,ka)] [iy ps]:=.cons cd0 .nil
      refine⟨(by show 0<=sizeLine;decide),fun pz npz=>?_⟩
      have npzH:H pz=none:=s12.free npz
      have q3:=af.new (o:=.lst []) npz
      have s3:=s12.trans q3
      have A3:=A2.mv cc2.j6 (fun c o h _=>q3 c o h) (fun p zs h=>q3 _ _ h)
      have htp3:=q3 _ _ htp2
      have hz3:(upd H2 pz (.lst [])) pz=some (.lst []):=aa
      have npm:pz≠m:=(ar A2.mem npz).symm
      have npd:pz≠d:=(ar A2.nB npz).symm
      have npr:pz≠r:=by obtain⟨dx,h⟩:=A2.ob;exact (ar h npz).symm
      generalize (upd H2 pz (.lst []))=H3 at q3 s3 A3 hz3 htp3
      have c0ok:(iy ps).1<ps.length/\cV xs (iy ps).2:=by
        unfold iy
        split
        . exact⟨hn0,cV.zero⟩
        . exact⟨hn0,p7 bW⟩
      refine⟨fun fu IA H'=>∃(ms:List (PyData×Addr)) (cs:List Cp) (outs:List Piece) (zs:List V) (u1 u2 u3 u4 u5 u6:Option V),IA=[some (.ref pp),some (.int (most:Nat)),some (.ref tp),some (.ref r),some (.ref pz),u1,u2,u3,u4,u5,u6]/\il P w C H' r m d ms/\o9 ms cs/\jQ ps.length most cs/\(∀c∈cs,c.1<ps.length/\cV xs c.2)/\H' pz=some (.lst zs)/\aP H' zs (outs.map bK)/\fR (cX ps) most ps fu cs outs=cy ps most/\fu+outs.length=most+ps.length/\outs.length<=cs.length/\H' tp=some (.tup (vN hs))/\af H H',⟨most+ps.length,[(d0,ka)],[iy ps],[],[],_,_,_,_,_,_,rfl,A3,cc2,⟨by simp,IQ (J3 _ _) hm1⟩,(fun c hc=>by rw [IH.mp hc];exact c0ok),hz3,.nil,rfl,rfl,Jc _,htp3,s3⟩,?_⟩
      clear A2 A3 hz3 s3 q3 htp3 cc2 cd0 npz htp2 s2
      rintro fu IA H4 ⟨ms,cs,outs,zs,u1,u2,u3,u4,u5,u6,rfl,A4,cc4,um,hcs,hz4,rz4,hloop,hfu,hoc,htp4,s4⟩
      obtain⟨dx4,hob4⟩:=A4.ob
      have hzl:zs.length=outs.length:=by have:=rz4.len;rw [ID] at this;exact this
      have hml:ms.length=cs.length:=by have:=Paired.length cc4;rw [ID] at this;exact this
      have hml':(ms.map fun p=>V.ref p.2).length=ms.length:=ID ..
      have hcn:=um.len fun c hc=>(hcs c hc).1
      refine⟨_,rfl,pz,_,rfl,.inl (aO.of hz4),_,rfl,r,C,dx4,_,_,rfl,hob4,T.cl,T.members,ik,m,_,rfl,.inl (aO.of A4.mem),_,_,rfl,rfl,_,rfl,?_⟩
      refine dW (fun hc=>?_) (fun hc=>?_)
      . have hlt:outs.length<ms.length:=by have:=of_decide_eq_true hc;omega
        obtain⟨fu,rfl⟩:∃f',fu=f' + 1:=⟨fu-1,by omega⟩
        have hmsi:ms[outs.length]?=some ms[outs.length]:=by simp [hlt]
        generalize ms[outs.length]=pm at hmsi
        obtain⟨c,hci,cd⟩:=fJ cc4 (i:=outs.length) (x:=pm.1) (by rw [IZ,hmsi];rfl)
        have hcm:=Ja hci
        obtain⟨hcl,hct⟩:=hcs c hcm
        have hps:ps[c.1]?=some ps[c.1]:=by simp [hcl]
        generalize ps[c.1]=pce at hps
        rw [rH hci hps] at hloop
        obtain⟨ds,e⟩:=pce
        obtain⟨p',xs',pc,da,ea,ws,ep,e1',el',hx',e2,e3,r3,e4⟩:=iE hp hps
        cases ep
        rw [e1] at e1'
        cases e1'
        have dok:=bW.fb _ (Ja hps)
        have eok:=bW.ends _ (Ja hps)
        obtain⟨fd,hfd,epm⟩:=id cd
        have rdm:=(A4.keys pm (Ja hmsi)).2
        rw [epm] at rdm
        obtain⟨pa,pvs,ere,hpm,rpv⟩:=aJ.bH rdm
        cases ere
        obtain⟨y1,t1,rfl,q1,rpv⟩:=rpv.cons_inv
        obtain⟨y2,t2,rfl,q2,rpv⟩:=rpv.cons_inv
        have z:=rpv.nil_inv
        subst z
        rw [q1.int_inv] at hpm
        have fv2:FV H4 y2 c.2:=hfd.fv q2
        refine⟨_,fun σ' H' h=>⟨fu,JD fu,h⟩,?_⟩
        refine⟨_,rfl,r,C,dx4,_,_,rfl,hob4,T.cl,T.members,ik,_,rfl,pz,_,rfl,.inl (aO.of hz4),m,_,_,_,rfl,rfl,aO.of A4.mem,cJ (j:=zs.length) (by rw [hzl,IZ,hmsi];rfl),pm.2,_,rfl,aw.of hpm,rfl,_,_,rfl,_,_,rfl,rfl,?_⟩
        refine⟨_,rfl,_,rfl,pp,_,_,_,rfl,rfl,aw.of (s4 _ _ e1),cJ hx',pc,_,rfl,aw.of (s4 _ _ e2),rfl,_,_,rfl,_,_,rfl,rfl,?_⟩
        have bok:=hct.vW dok.2
        refine⟨_,rfl,_,rfl,y2,da,ws,ds,c.2,xs,rfl,fv2,s4 _ _ e3,r3.same s4 (aQ ds),hct,dok.2,(by omega),fun gv H5 g5 s5=>⟨_,rfl,gv,ea,cK c.2 ds,e,rfl,g5,s5 _ _ (s4 _ _ e4),(fun ss hs nd=>IQ (bok.b8 ss hs nd) (by omega)),fun at_ vs2 H6 hat pv s6=>?_⟩⟩
        have lok:=xZ bok eok
        obtain⟨hll,hl2⟩:=lX (e:=e) bok
        have s46:=s5.trans s6
        have A6:=A4.mv cc4.j6 (fun c o h _=>s46 c o h) (fun p zs h=>s46 _ _ h)
        have hz6:=s46 _ _ hz4
        have htp6:=s46 _ _ htp4
        have hvl:vs2.length=(cE (cK c.2 ds) e).length:=Paired.length pv
        generalize hls:cE (cK c.2 ds) e=ls at hloop lok hll hl2 pv hvl
        refine⟨_,rfl,at_,rfl,⟨_,aw.of hat⟩,fun acc na=>?_⟩
        have nam:acc≠m:=(ar A6.mem na).symm
        have nad:acc≠d:=(ar A6.nB na).symm
        have nar:acc≠r:=by obtain⟨dx,h⟩:=A6.ob;exact (ar h na).symm
        have kb:∀{H':Hp},lP m d H6 H'->∀p zs,H6 p=some (.tup zs)->H' p=some (.tup zs):=fun b p zs h=>b p _ h (bU h A6.mem (by intro z;cases z)) (bU h A6.nB (by intro z;cases z))
        refine kL (K:=K) (a:=at_) (xs:=vs2) (fun i ys IB H'=>∃(cv:Option V) (ms':List (PyData×Addr)),IB=[cv,some (.ref r),some (.ref tp),some (.int (most:Nat))]/\il P w C H' r m d ms'/\o9 ms' (cb (cX ps) most cs (ls.take i)).1/\ys=vN (cb (cX ps) most cs (ls.take i)).2/\H' acc=some (.lst ys)/\lP m d H6 H') ?_ ?_ ?_ ?_
        . have qn:=af.new (o:=.lst []) na
          exact⟨none,ms,rfl,A6.mv cc4.j6 (fun c o h _=>qn c o h) (fun p zs h=>qn _ _ h),cc4,rfl,aa,lP.of_same qn⟩
        . rintro i ys IB H7 hi ⟨cv,ms',rfl,A7,cc7,rfl,ha,b7⟩
          refine⟨aw.of (kb b7 _ _ hat),ha,bp ?_⟩
          obtain⟨_,_,hlen,_⟩:=i5 (tops:=cX ps) (ls:=ls.take i) (ns:=[]) um hcs fun c hc=>lok c (Kw hc)
          rw [ID]
          unfold cb
          rw [hlen,Jm]
          show 0+_<=_
          omega
        . rintro i y ys IB H7 hi ⟨cv,ms',rfl,A7,cc7,rfl,ha,b7⟩
          obtain⟨pr,hpr,qa,u,rfl,hq,fvu⟩:=fJ pv hi
          obtain⟨k,U⟩:=pr
          obtain⟨hkl,hUok⟩:=lok _ (Ja hpr)
          obtain⟨cok7,hcs7,_,_⟩:=i5 (tops:=cX ps) (ls:=ls.take i) (ns:=[]) um hcs fun c hc=>lok c (Kw hc)
          have hcn7:=jQ.len cok7 fun c hc=>(hcs7 c hc).1
          have hml7:ms'.length=(cb (cX ps) most cs (ls.take i)).1.length:=by have:=Paired.length cc7;rw [ID] at this;exact this
          have hnx:=wV (cX ps) most (cs:=cs) hpr
          have fvu7:=fvu.av (kb b7)
          obtain⟨fdu,hfdu,ru⟩:=fvu7.fd
          have hq7:=kb b7 _ _ hq
          have cdl:CD (k,U) (.tuple [.int (k:Nat),fdu]):=⟨fdu,hfdu,rfl⟩
          obtain⟨dx7,hob7⟩:=A7.ob
          have htp7:=kb b7 _ _ htp6
          refine bu ?_
          refine i7 ?_
          refine bJ ?_
          refine⟨_,rfl,r,dx7,_,rfl,hob7,vQ,_,rfl,_,rfl,_,rfl,r,C,dx7,_,_,rfl,hob7,T.cl,T.places,i0,_,rfl,qa,tp,d,most,k,U,_,hs,u,ms',_,cX ps,rfl,hq7,.tup hq7 (.cons (.int _) (.cons ru .nil)),cdl,hUok.lay gm,htp7,hhs,A7.nB,A7.jX,cc7,fun a d' H8 rd' cd' s8=>?_⟩
          have A8:=A7.mv cc7.j6 (fun c o h _=>s8 c o h) (fun p zs h=>s8 _ _ h)
          have hcpok:cV xs (bC (cX ps) most (cb (cX ps) most cs (ls.take i)).1 (k,U)).2:=by
            unfold bC
            split
            . exact cV.zero
            . split
              . exact hUok
              . exact cV.zero
          refine⟨r,m,d,a,d',ms',rfl,A8,(by rw [hml7];unfold cb;omega),cd'.key (hcpok.lay gm),rd',cd'.j6,cc7.j6,fun H9 A9 b9=>?_⟩
          have ha9:=b9 _ _ (s8 _ _ ha) nam nad
          have cc9:=o9.put (a:=a) cc7 cd'
          have eix:=(cd'.mem cc9).2
          rw [eix]
          refine⟨ha9,_,lW ms' d' a,rfl,?_,?_,?_,aa,fun c' o h c1 c2=>?_⟩
          . refine A9.mv cc9.j6 (fun x o h z=>?_) (fun p zs h=>by rw [ao (bU h ha9 (by intro z;cases z))];exact h)
            rw [ao ?_]
            . exact h
            . rcases z with rfl | rfl | rfl
              . exact nar.symm
              . exact nam.symm
              . exact nad.symm
          . rw [hnx];exact cc9
          . rw [hnx]
            show _=((cb (cX ps) most cs (ls.take i)).2++[_]).map _
            rw [IT]
            rfl
          . rw [ao (ar h na)]
            exact b9 c' o (s8 _ _ (b7 c' o h c1 c2)) c1 c2
        rintro ys IB H7 ⟨cv,ms',rfl,A7,cc7,rfl,ha,b7⟩
        rw [hvl,Jn] at cc7 ha
        obtain⟨cok7,hcs7,hlen7,more,emore⟩:=i5 (tops:=cX ps) (ls:=ls) (ns:=[]) um hcs lok
        have hcn7:=jQ.len cok7 fun c hc=>(hcs7 c hc).1
        have s7:af H H7:=fun c o h=>b7 c o (s46 c o (s4 c o h)) (ar h nm) (ar h nd)
        have hz7:H7 pz=some (.lst zs):=b7 _ _ hz6 npm npd
        have hlen7':(cb (cX ps) most cs ls).2.length=ls.length:=by unfold cb;rw [hlen7];show 0+_=_;omega
        refine⟨_,rfl,.inl ⟨rfl,_,aO.of hz7⟩,_,rfl,_,rfl,_,rfl,ea,acc,e,(cb (cX ps) most cs ls).2,rfl,s7 _ _ e4,ha,(by rw [hlen7'];exact hll),(by rw [hlen7'];exact hl2),fun t3 H8 ht3 s8=>⟨ln2,fun t4 nt4=>?_⟩⟩
        have q4:=af.new (o:=.tup [.ref da,.ref t3]) nt4
        have s79:=s8.trans q4
        have ht9:=q4 _ _ ht3
        have h49:(upd H8 t4 (.tup [.ref da,.ref t3])) t4=some (.tup [.ref da,.ref t3]):=aa
        generalize (upd H8 t4 (.tup [.ref da,.ref t3]))=H9 at q4 s79 ht9 h49
        have hz9:=s79 _ _ hz7
        refine⟨pz,_,_,rfl,rfl,hz9,bp (by omega),?_⟩
        have kt:∀p xs,H9 p=some (.tup xs)->(upd H9 pz (.lst (zs++[.ref t4]))) p=some (.tup xs):=fun p xs h=>by rw [ao (bU h hz9 (by intro z;cases z))];exact h
        have s9:=s7.trans s79
        have kt49:∀p xs,H4 p=some (.tup xs)->(upd H9 pz (.lst (zs++[.ref t4]))) p=some (.tup xs):=fun p xs h=>kt _ _ (s79 _ _ (kb b7 _ _ (s46 _ _ h)))
        refine⟨ms',(cb (cX ps) most cs ls).1,outs++[(ds,gQ e (cb (cX ps) most cs ls).2)],_,_,_,_,_,_,_,rfl,A7.mv cc7.j6 (fun x o h z=>?_) (fun p zs h=>kt _ _ (s79 _ _ h)),cc7,cok7,hcs7,aa,?_,hloop,(by rw [IJ];show fu+(_+1)=_;omega),?_,kt49 _ _ htp4,s9.put npzH⟩
        . rw [ao ?_]
          . exact s79 _ _ h
          . rcases z with rfl | rfl | rfl
            . exact npr.symm
            . exact npm.symm
            . exact npd.symm
        . rw [IT]
          have rd4:aJ H9 (.ref t4) (bK (ds,gQ e (cb (cX ps) most cs ls).2)):=.tup h49 (.cons (.tup (s9 _ _ e3) (r3.same s9 (aQ ds))) (.cons (nu ht9) .nil))
          exact aP.app (rz4.av kt49 (bL outs)) (rd4.av kt (bZ _))
        . have:(cb (cX ps) most cs ls).1.length=cs.length+more.length:=by unfold cb;rw [emore,IJ]
          rw [this,IJ]
          show _+1<=_
          omega
      . have hnl:¬outs.length<ms.length:=fun z=>hc (decide_eq_true (by omega))
        rw [uk (Ku (by omega))] at hloop
        rw [<-hloop] at q
        refine⟨_,rfl,pz,_,rfl,.inl ⟨aO.of hz4,fun t1 n1=>?_⟩⟩
        have q1:=af.new (o:=.tup zs) n1
        refine⟨_,rfl,r,C,dx4,_,_,rfl,q1 _ _ hob4,T.cl,T.members,ik,m,_,rfl,.inl ⟨aO.of (q1 _ _ A4.mem),fun t2 n2=>⟨ln2,fun t3 n3=>?_⟩⟩⟩
        have q2:=af.new (o:=.tup (ms.map fun p=>V.ref p.2)) n2
        have q3:=af.new (o:=.tup [.ref t1,.ref t2]) n3
        have q13:=(q1.trans q2).trans q3
        refine q (.ref t3) (ms.map (·.1)) _ cc4 (.tup aa (.cons (.tup (q3 _ _ (q2 _ _ aa)) (rz4.same q13 (bL outs))) (.cons (.tup (q3 _ _ aa) (x8 fun p hp=>(A4.keys p hp).2.same q13 (cc4.j6 p hp))) .nil))) (s4.trans q13)
    . obtain⟨p,xs,m,rfl,hp,h6,h10,q⟩:=h
      refine⟨_,(ae (bE (aR qu (aU aS rfl Z.len bT (aB (pv 0))) (dC (v:=.int 60) rfl G_MOST_TO_LEAD ⟨_,rfl⟩) (aZ _))
      (ai (wq GX.tM GX.gM (aB (AY (aU aS rfl Z.len bT (aB (pv 0)))))))
      aV)
      (fZ.oW (ae (aY (i:=2) bI.nd (ay O_heads hr (aB (pv 0))))
      (ae (jL (aY (i:=3) bI.nd (kP O_Row___init__ (hr.mono (by decide)) rfl (aB (bc (aG ah (e6 (aR jZ ah (pv 2) (by with_unfolding_all rfl)) (bc dz) (ay O_start hr (aB (pv 0))))))))))
      (ae (aY (i:=4) bI.nd (cY dz))
      (ae (pK PassesOwn.never (aR jj (aU aS rfl Z.len bT (aB (pv 4))) (aU aS rfl Z.len bT (aB (cS (pv 3) rfl))) (aZ _))
      (ae (cQ (aI bG (cS (pv 3) rfl) (aU aS rfl Z.len bT (aB (pv 4)))) (cx rfl (aK (aL (i:=5) bI.nd) (aK (aL (i:=6) bI.nd) bX))))
      (ae (cQ (aI bD (pv 0) (pv 5)) (cx rfl (aK (aL (i:=7) bI.nd) (aK (aL (i:=8) bI.nd) bX))))
      (ae (aY (i:=9) bI.nd (ay O_leads hr (aG (ay O_behind hr (aG (pv 6) (pv 7))) (pv 8))))
      (ae (gJ (i:=10) ["lead"] ["copies", "tops", "most"] [3,2,1] rfl bI.nd rfl rfl rfl (ef (pv 9)) rfl (by decide +kernel) (by decide +kernel) (by decide +kernel) ⟨⟨rfl,.inl rfl,rfl⟩,⟨⟨rfl,.inl rfl,rfl⟩,⟨⟨rfl,.inl rfl,rfl⟩,True.intro⟩⟩⟩ (fun _ _ _ _=>(aL (i:=0) (show ((["lead"]:List Str)++(["copies", "tops", "most"]:List Str)).Nodup by decide +kernel) (hf:=Jg rfl))) (fun _ _ _ _=>d9) (fun _ _ _ _=>(kO O_Row_place_of (pv 1) (hr.mono (by decide)) (aB (ay O_copy_for hr (wa (pv 0) (pv 2) (oH (K:=K) rfl (pv 1) rfl) (pv 3)))))))
      (ai (dD (gy PySem.F.plainAttrs_list PySem.F.slot_list_append PySem.F.type_list_append eI (pv 4) (aB (bc (aG (pv 7) (ay O_end_to hr (aG (pv 8) (pv 10))))))))))))))
      (ai (aF (bc (aG (bo bh rfl Z.tuple cf (aB (pv 4))) (bo bh rfl Z.tuple cf (aB (cS (pv 3) rfl))))))))))))),?_⟩
      refine⟨_,rfl,p,_,rfl,.inr (aw.of hp),_,_,rfl,rfl,_,rfl,?_⟩
      refine dn (decide_eq_true (by omega)) ?_
      refine⟨⟨_,rfl,p,_,rfl,.inr (aw.of hp),_,rfl,(by show ((xs.length:Nat):Int).natAbs<_;omega),fun y hy=>⟨(by show 1<=1000;decide),q⟩⟩⟩
theorem CV {f:Addr} {fd:FuncData} (F:bS K "meets" "meets" tu f fd) (Z:Bl mg) (O_covers:Own P w K mg base "covers" 2 ["facts", "others"] vR):aW P w K mg base bQ 3 f fd ["one", "lead"] yd:=by
 refine F.ok (k:=2) CO (fun vs H Q E h=>?_) (fun cdv A outer s H vs Q E hr h=>?_)
 ·obtain⟨ov,lv,c,k,U,rfl,_⟩:=h
  rfl
 ·obtain⟨ov,lv,c,k,U,rfl,hov,hlv,b8,q⟩:=h
  refine⟨_,(ai (aF (mQ (iA cU (aI bD (pv 0) ah) (aI bD (pv 1) ah) (aZ _)) (hV (ay O_covers hr (aG (aI bD (pv 0) ah) (aI bD (pv 1) ah))))))),?_⟩
  obtain⟨oq,ou,rfl,hoq,hou⟩:=hov
  obtain⟨lq,lu,rfl,hlq,hlu⟩:=hlv
  have hlq:H lq=some (.tup [.int (k:Nat),lu]):=hlq
  have hlu:FV H lu U:=hlu
  refine⟨_,rfl,oq,_,0,_,rfl,rfl,aw.of hoq,eE,_,rfl,lq,_,0,_,rfl,rfl,aw.of hlq,eE,rfl,_,rfl,?_⟩
  by_cases hc:c.1=(k:Int)
  ·refine dn (decide_eq_true (by rw [hc])) ?_
   refine⟨_,rfl,oq,_,1,_,rfl,rfl,aw.of hoq,en,_,rfl,lq,_,1,_,rfl,rfl,aw.of hlq,en,ou,lu,c.2,U,rfl,hou,hlu,b8,fun b H1 hb s1=>?_⟩
   exact q b H1 (hb.trans ⟨fun h=>⟨hc,h⟩,fun h=>h.2⟩) s1
  ·refine bP (decide_eq_false fun z=>hc (by injection z)) ?_
   exact q false H ⟨(fun h=>nomatch h),fun h=>absurd h.1 hc⟩ (af.refl H)
theorem uR {f:Addr} {fd:FuncData} (F:bS K "with_piece" "with_piece" jU f fd) (Z:Bl mg)  : aW P w K mg base bQ 1 f fd ["plan", "place", "piece"] pB:=by
 refine F.ok (k:=0) uN (fun vs H Q E h=>?_) (fun cdv A outer s H vs Q E hr h=>?_)
 ·obtain⟨plv,qv,ps,p,k,rfl,_⟩:=h
  rfl
 ·obtain⟨plv,qv,ps,p,k,rfl,hp,hv,hk,hn,q⟩:=h
  refine⟨_,(ai (aF (bf kR (bf kR (iB kQ (pv 0) jv (jw (pv 1))) (bc (aB (pv 2)))) (iB kQ (pv 0) (jw (bf du (pv 1) ah)) jv)))),?_⟩
  obtain⟨pp,vs,rfl,e1,rvs⟩:=aJ.bH hp
  have hvl:vs.length=ps.length:=by have:=rvs.len;rw [ID] at this;exact this
  refine⟨_,rfl,_,rfl,(k:Int),rfl,pp,_,rfl,aw.of e1,fun hw'=>absurd hw'.2 (by rw [HT.kG];omega),fun _ p1 np1=>?_⟩
  rw [wc (by omega)]
  have s1:=af.new (o:=.tup (vs.take k)) np1
  refine⟨_,rfl,xw,fun t1 n1=>?_⟩
  have s2:=af.new (o:=.tup [qv]) n1
  refine⟨p1,t1,_,_,rfl,rfl,s2 _ _ aa,aa,(by rw [Jm];show _+1<=sizeLine;exact Jo (bp (by omega))),fun t2 H3 ht2 s3=>?_⟩
  have s03:=(s1.trans s2).trans s3
  refine⟨_,rfl,_,rfl,_,_,rfl,rfl,((k+1:Nat):Int),rfl,pp,_,rfl,aw.of (s03 _ _ e1),fun hw'=>absurd hw'.1 (by rw [HT.kG];omega),fun _ p3 np3=>?_⟩
  rw [sV (by omega)]
  have s4:=af.new (o:=.tup (vs.drop (k+1))) np3
  refine⟨t2,p3,_,_,rfl,rfl,s4 _ _ ht2,aa,(by rw [IJ,Jm,Kc];show _+1+_<=sizeLine;exact Jo (bp (by omega))),fun t H5 ht s5=>?_⟩
  have s05:=s03.trans (s4.trans s5)
  refine q (.ref t) H5 ?_ s05
  rw [Ew (by omega)] at ht
  have hpc:aJ H5 qv (bK p):=hv.same s05 (bZ p)
  refine .tup ht ?_
  rw [K9]
  exact aP.setAt hpc k (rvs.same s05 (bL ps))
theorem wB {f:Addr} {fd:FuncData} (F:bS K "first_met" "first_met" kj f fd) (Z:Bl mg) (O_meets:Own P w K mg base "meets" 3 ["one", "lead"] yd):aW P w K mg base bQ 4 f fd ["lead", "copies"] rK:=by
 refine F.ok (k:=3) jV (fun vs H Q E h=>?_) (fun cdv A outer s H vs Q E hr h=>?_)
 ·obtain⟨lv,pa,us,paper,ld,rfl,_⟩:=h
  rfl
 ·obtain⟨lv,pa,us,paper,ld,rfl,hl,hpa,hpp,b8,q⟩:=h
  refine⟨_,(ae (eG PassesOwn.never rfl (yc rfl Z.enumerate (aB (pv 1))) (cx rfl (aK (aL (i:=2) jV.nd) (aK (aL (i:=3) jV.nd) bX)))
   (ai (bE (mP (ay O_meets hr (aG (pv 3) (pv 0))))
   (ai (aF (pv 2)))
   aV)))
   (ai (aF fh))),?_⟩
  refine⟨_,rfl,pa,rfl,.inl ⟨⟨_,aw.of hpa⟩,?_⟩⟩
  refine CA (Sq:=aw K) (a:=pa) (xs:=us) (fun i IA H'=>∃(u1 u2:Option V),IA=[some lv,some (.ref pa),u1,u2]/\(∀(j:Nat) (c:Pp),j<i->paper[j]?=some c->¬ze c ld.1 ld.2)/\af H H') ?_ ?_ ?_ ?_
  ·exact⟨_,_,rfl,(fun j c h=>absurd h (Nat.not_lt_zero _)),af.refl _⟩
  ·rintro i IA H1 hi ⟨u1,u2,rfl,hm,s1⟩
   exact aw.of (s1 _ _ hpa)
  ·rintro i x IA H1 t hx ht ⟨u1,u2,rfl,hm,s1⟩
   obtain⟨c,hc,hpv⟩:=L2.fJ hpp hx
   have s2:=s1.trans (af.new (o:=.tup [.int (i:Nat),x]) ht)
   refine⟨t,_,rfl,aw.of aa,rfl,_,_,rfl,_,_,rfl,rfl,?_⟩
   generalize (upd H1 t (.tup [.int (i:Nat),x]))=H2 at s2 ⊢
   refine⟨_,rfl,_,rfl,x,lv,c,ld.1,ld.2,rfl,hpv.av (fun p zs e=>s2 _ _ e),PV.av hl (fun p zs e=>s2 _ _ e),b8 c (Ja hc),fun b H3 hb s3=>⟨_,rfl,?_⟩⟩
   cases b with
   | true =>
    refine bJ ?_
    exact⟨_,rfl,q (some i) H3 ⟨⟨c,hc,hb.mp rfl⟩,hm⟩ (s2.trans s3)⟩
   | false =>
    refine bO ?_
    refine⟨_,_,rfl,fun j c' hj hc'=>?_,s2.trans s3⟩
    by_cases hji:j=i
    ·subst hji
     rw [hc] at hc'
     cases hc'
     exact fun z=>absurd (hb.mpr z) (by decide)
    ·exact hm j c' (by omega) hc'
  ·rintro IA H1 ⟨u1,u2,rfl,hm,s1⟩
   refine q none H1 (fun c hc=>?_) s1
   obtain⟨j,hj⟩:=K7 hc
   exact hm j c (by rw [eM hpp];exact (IY.mp hj).1) hj
theorem wC {f:Addr} {fd:FuncData} (F:bS K "piece_for" "piece_for" km f fd) (Z:Bl mg) (O_leads:Own P w K mg base "leads" 5 ["facts", "end"] (sN aA)) (O_behind:Own P w K mg base "behind" 3 ["facts", "deeds"] nH) (O_first_met:Own P w K mg base "first_met" 4 ["lead", "copies"] rK) (O_end_to:Own P w K mg base "end_to" 5 ["end", "ways"] sP):aW P w K mg base bQ 7 f fd ["facts", "piece", "copies"] rL:=by
  refine F.ok (k:=6) iw (fun vs H Q E h=>?_) (fun cdv A outer s H vs Q E hr h=>?_)
  . obtain⟨fv,pc,da,ea,pa,wd,us,ds,e,paper,T,xs,rfl,_⟩:=h
    rfl
  . obtain⟨fv,pc,da,ea,pa,wd,us,ds,e,paper,T,xs,rfl,hf,hpc,hda,rds,hea,hpa,hpp,tok,dok,hd12,hx,b8,q⟩:=h
    refine⟨_,(ae (cQ (pv 1) (cx rfl (aK (aL (i:=3) iw.nd) (aK (aL (i:=4) iw.nd) bX))))
      (ae (gJ (i:=5) ["lead"] ["copies"] [2] rfl iw.nd rfl rfl rfl (ef (ay O_leads hr (aG (ay O_behind hr (aG (pv 0) (pv 3))) (pv 4)))) rfl (by decide +kernel) (by decide +kernel) (by decide +kernel) ⟨⟨rfl,.inl rfl,rfl⟩,True.intro⟩ (fun _ _ _ _=>(aL (i:=0) (show ((["lead"]:List Str)++(["copies"]:List Str)).Nodup by decide +kernel) (hf:=Jg rfl))) (fun _ _ _ _=>d9) (fun _ _ _ _=>(ay O_first_met hr (aG (pv 0) (pv 1)))))
      (ae (bE (aR jZ fh (pv 5) (by with_unfolding_all rfl))
      (ai (aF fh))
      aV)
      (ai (aF (bc (aG (pv 3) (ay O_end_to hr (aG (pv 4) (pv 5)))))))))),?_⟩
    refine⟨_,rfl,pc,_,rfl,aw.of hpc,rfl,_,_,rfl,_,_,rfl,rfl,?_⟩
    refine⟨_,rfl,_,rfl,fv,da,wd,ds,T,xs,rfl,hf,hda,rds,tok,dok,(by omega),fun v H1 f1 s1=>?_⟩
    have tokb:=tok.vW dok
    refine⟨_,rfl,v,ea,cK T ds,e,rfl,f1,s1 _ _ hea,(fun ss a b=>IQ (tokb.b8 ss a b) (by omega)),fun t1 lvs H2 ht1 hlv s2=>?_⟩
    have s02:=s1.trans s2
    have hll:=eM hlv
    have hl2:=(lX (e:=e) tokb).2
    refine⟨t1,rfl,⟨_,aw.of ht1⟩,fun acc na=>?_⟩
    refine kL (K:=K) (a:=t1) (xs:=lvs) (fun i ys IB H'=>∃(c1:Option V) (os:List (Option Nat)),IB=[c1,some (.ref pa)]/\ys=os.map kY/\Paired (FM paper) ((cE (cK T ds) e).take i) os/\H' acc=some (.lst ys)/\af H2 H') ?_ ?_ ?_ ?_
    . exact⟨none,[],rfl,rfl,.nil,aa,af.new na⟩
    . rintro i ys IB H3 hi ⟨c1,os,rfl,rfl,g1,ha,s3⟩
      refine⟨aw.of (s3 _ _ ht1),ha,bp ?_⟩
      have:=eM g1
      rw [Jm] at this
      rw [ID]
      omega
    . rintro i x ys IB H3 hx' ⟨c1,os,rfl,rfl,g1,ha,s3⟩
      obtain⟨ld,hld,hpv⟩:=L2.fJ hlv hx'
      refine bu ?_
      refine i7 ?_
      refine bJ ?_
      have s03:=s02.trans s3
      refine⟨_,rfl,_,rfl,x,pa,us,paper,ld,rfl,PV.av hpv (fun p zs e=>s3 _ _ e),s03 _ _ hpa,hpp.same s03,b8,fun o H4 ho s4=>?_⟩
      refine⟨s4 _ _ ha,_,os++[o],rfl,(by rw [IT];rfl),?_,aa,(s3.trans s4).put na⟩
      rw [take1 hld]
      exact L2.eJ g1 (.cons ho .nil)
    rintro ys IB H3 ⟨c1,os,rfl,rfl,g1,ha,s3⟩
    rw [hll,Jn] at g1
    have hol:=eM g1
    have s03:=s02.trans s3
    refine bu ?_
    refine⟨_,rfl,acc,_,rfl,.inl (aO.of ha),rfl,sW os,_,rfl,?_⟩
    by_cases hn:none∈os
    . refine dn (by rw [show (if false=true then !iW V.bg (os.map kY) else iW V.bg (os.map kY))=decide (none∈os) from Dp os];exact decide_eq_true hn) ?_
      exact q .bg none H3 ⟨os,g1,.inl ⟨hn,rfl⟩⟩ (fun _=>rfl) (fun e' z=>nomatch z) s03
    . refine bP (by rw [show (if false=true then !iW V.bg (os.map kY) else iW V.bg (os.map kY))=decide (none∈os) from Dp os];exact decide_eq_false hn) ?_
      obtain⟨ns,rfl,hfm⟩:=all_some hn
      have hvn:(ns.map some).map kY=vN ns:=by rw [JN];rfl
      rw [hvn] at ha
      rw [ID] at hol
      have hlen:=lX (e:=e) tokb
      refine⟨_,rfl,_,rfl,_,rfl,ea,acc,e,ns,rfl,s03 _ _ hea,ha,(by rw [<-hol];exact hlen.1),(by omega),fun t H4 ht s4=>⟨ln2,fun t5 n5=>?_⟩⟩
      have s5:=af.new (o:=.tup [.ref da,.ref t]) n5
      exact q (.ref t5) (some (gQ e ns)) _ ⟨ns.map some,g1,.inr ⟨hn,by rw [hfm]⟩⟩ (fun z=>nomatch z) (fun e' z=>by cases z;exact⟨t5,t,rfl,aa,s5 _ _ ht⟩) (s03.trans (s4.trans s5))
theorem oh {f:Addr} {fd:FuncData} (F:bS K "__init__" "Keeper.__init__" fW f fd) (Z:Bl mg) {cP cM cN cR cL cO:Addr} (GX:zh K mg cP cM cN cR cL cO) {C:Addr} (T:sJ K C) {D:Addr} (TK:gC K D) (OX_led_past:wu P w K mg base "led_past" 7 ["plan", "most"] (Dn (fS P w C) (uC cM))):aW P w K mg base (fD P w) 12 f fd ["self", "plan", "most"] (Dn (jy D) (pF D cM)):=by
 refine F.Hb (k:=11) n9 (fun vs H Q E h=>?_) (fun cdv A outer s H vs Q E hr h=>?_)
 ·rcases h with h | h
  ·obtain⟨kp,dx,plv,ps,xs,most,rfl,_⟩:=h
   rfl
  ·obtain⟨kp,dx,p,xs,m,rfl,_⟩:=h
   rfl
 ·rcases h with h | h
  ·obtain⟨kp,dx,plv,ps,xs,most,rfl,hk,hp,ok,q⟩:=h
   refine⟨_,(ae (gf (pv 0) (pv 1) rfl)
   (ae (gf (pv 0) (pv 2) rfl)
   (ae (cQ (AZ OX_led_past yl hr (aG (pv 1) (pv 2))) (cx rfl (aK (kZ (pv 0)) (aK (kZ (pv 0)) bX))))
   (fZ.oW (ai (gf (pv 0) ah rfl)))))),?_⟩
   refine⟨_,rfl,_,rfl,kp,D,dx,_,rfl,hk,TK.cl,TK.kept,(by show 0<1000;decide),?_⟩
   rw [Dq]
   refine⟨_,rfl,_,rfl,kp,D,dx,_,rfl,aa,TK.cl,TK.bound,(by show 1<1000;decide),?_⟩
   rw [Dr,iz]
   have b1:cm kp H (upd H kp (.ins D dx (pC plv (.int (most:Nat))))):=cm.put
   have hk1:(upd H kp (.ins D dx (pC plv (.int (most:Nat))))) kp=some (.ins D dx (pC plv (.int (most:Nat)))):=aa
   generalize (upd H kp (.ins D dx (pC plv (.int (most:Nat)))))=H1 at b1 hk1 ⊢
   have hp1:=hp.av (b1.av hk) (aH ps)
   refine⟨_,rfl,_,rfl,.inl ⟨plv,ps,xs,most,rfl,hp1,ok.bW,ok.gm,(by have:=ok.b8;omega),ok.n0,ok.pD,ok.m1,ok.m3,fun v ds H2 cc r2 s2=>?_⟩⟩
   obtain⟨lp,lvs,rfl,hlp,rl⟩:=aJ.bH r2
   obtain⟨ov,t1,rfl,ro,rl⟩:=rl.cons_inv
   obtain⟨cv,t2,rfl,rc,rl⟩:=rl.cons_inv
   have z':=rl.nil_inv
   subst z'
   have hk2:=s2 _ _ hk1
   refine⟨lp,_,rfl,aw.of hlp,rfl,_,_,rfl,_,rfl,kp,D,dx,_,rfl,hk2,TK.cl,TK.past,(by show 2<1000;decide),_,_,rfl,_,rfl,kp,D,dx,_,rfl,aa,TK.cl,TK.lg,(by rw [Ds];show 3<1000;decide),rfl,?_⟩
   rw [Ds,GO,iz]
   refine⟨_,rfl,kp,D,dx,_,rfl,aa,TK.cl,TK.times,(by show 4<1000;decide),?_⟩
   rw [GP,iz]
   have b3:cm kp H2 (upd H2 kp (.ins D dx (fC plv (.int (most:Nat)) ov cv (.int 1)))):=cm.put
   have k3:=b3.av hk2
   exact q ov cv ds _ cc (ro.av k3 (aH _)) (rc.av k3 (fU cc)) ⟨dx,aa⟩ ((b1.trans (cm.of_same s2)).trans b3)
  ·obtain⟨kp,dx,p,xs,m,rfl,hk,hp,h6,h10,q⟩:=h
   refine⟨_,(ae (gf (pv 0) (pv 1) rfl)
   (ae (gf (pv 0) (pv 2) rfl)
   (ae (cQ (AZ OX_led_past yl hr (aG (pv 1) (pv 2))) (cx rfl (aK (kZ (pv 0)) (aK (kZ (pv 0)) bX))))
   (fZ.oW (ai (gf (pv 0) ah rfl)))))),?_⟩
   refine⟨_,rfl,_,rfl,kp,D,dx,_,rfl,hk,TK.cl,TK.kept,(by show 0<1000;decide),?_⟩
   rw [Dq]
   refine⟨_,rfl,_,rfl,kp,D,dx,_,rfl,aa,TK.cl,TK.bound,(by show 1<1000;decide),?_⟩
   rw [Dr,iz]
   have b1:cm kp H (upd H kp (.ins D dx (pC (.ref p) m))):=cm.put
   have hk1:(upd H kp (.ins D dx (pC (.ref p) m))) kp=some (.ins D dx (pC (.ref p) m)):=aa
   generalize (upd H kp (.ins D dx (pC (.ref p) m)))=H1 at b1 hk1 ⊢
   have hp1:=b1.av hk _ _ hp
   refine⟨_,rfl,_,rfl,.inr ⟨p,xs,m,rfl,hp1,h6,h10,q _ b1⟩⟩
theorem mK {f:Addr} {fd:FuncData} (F:bS K "make_anew" "Keeper.make_anew" fO f fd) (Z:Bl mg) {C:Addr} (T:sJ K C) {D:Addr} (TK:gC K D) (O_led_past:Own P w K mg base "led_past" 7 ["plan", "most"] (fS P w C)):aW P w K mg base bQ 12 f fd ["self"] (ye D):=by
 refine F.ok (k:=11) mJ (fun vs H Q E h=>?_) (fun cdv A outer s H vs Q E hr h=>?_)
 ·obtain⟨kp,plv,ov0,cv0,ps,xs,most,n,rfl,_⟩:=h
  rfl
 ·obtain⟨kp,plv,ov0,cv0,ps,xs,most,n,rfl,A,hp,ok,q⟩:=h
  refine⟨_,(ae (cQ (ay O_led_past hr (aG (cS (pv 0) rfl) (cS (pv 0) rfl))) (cx rfl (aK (kZ (pv 0)) (aK (kZ (pv 0)) bX))))
   (ai (zL (pv 0) ah E5))),?_⟩
  obtain⟨dx,hk⟩:=A
  refine⟨_,rfl,kp,D,dx,_,_,rfl,hk,TK.cl,TK.kept,ma,_,rfl,kp,D,dx,_,_,rfl,hk,TK.cl,TK.bound,AS,plv,ps,xs,most,rfl,hp,ok.bW,ok.gm,(by have:=ok.b8;omega),ok.n0,ok.pD,ok.m1,ok.m3,fun v ds H2 cc r2 s2=>?_⟩
  obtain⟨lp,lvs,rfl,hlp,rl⟩:=aJ.bH r2
  obtain⟨ov,t1,rfl,ro,rl⟩:=rl.cons_inv
  obtain⟨cv,t2,rfl,rc,rl⟩:=rl.cons_inv
  have z':=rl.nil_inv
  subst z'
  have hk2:=s2 _ _ hk
  refine⟨lp,_,rfl,aw.of hlp,rfl,_,_,rfl,_,rfl,kp,D,dx,_,rfl,hk2,TK.cl,TK.past,(by show 5<1000;decide),_,_,rfl,_,rfl,kp,D,dx,_,rfl,aa,TK.cl,TK.lg,(by rw [p8];show 5<1000;decide),rfl,?_⟩
  rw [p8,zf,iz]
  refine⟨_,rfl,kp,D,dx,_,_,rfl,aa,TK.cl,TK.times,ux,_,_,rfl,rfl,dx,_,aa,(by show 5<1000;decide),?_⟩
  rw [AU,iz]
  have b3:cm kp H2 (upd H2 kp (.ins D dx (fC plv (.int (most:Nat)) ov cv (.int (n+1))))):=cm.put
  have k3:=b3.av hk2
  exact q ov cv ds _ cc (ro.av k3 (aH _)) (rc.av k3 (fU cc)) ⟨dx,aa⟩ ((cm.of_same s2).trans b3)
theorem tF {f:Addr} {fd:FuncData} (F:bS K "mend" "Keeper.mend" jd f fd) (Z:Bl mg) {D:Addr} (TK:gC K D)  : aW P w K mg base bQ 1 f fd ["self", "places", "pieces"] (yf D):=by
 refine F.ok (k:=0) fV (fun vs H Q E h=>?_) (fun cdv A outer s H vs Q E hr h=>?_)
 ·obtain⟨kp,la,lb,plv,ov,cv,most,n,ns,pvs,qs,ps',rfl,_⟩:=h
  rfl
 ·obtain⟨kp,la,lb,plv,ov,cv,most,n,ns,pvs,qs,ps',rfl,A,ho,hq,hla,hlb,rps,hln,hlt,q⟩:=h
  refine⟨_,(ae (aY (i:=3) fV.nd (bo mV rfl Z.list xu (aB (cS (pv 0) rfl))))
   (ae (eG PassesOwn.never rfl (Eu rfl Z.zip (aG (pv 1) (pv 2))) (cx rfl (aK (aL (i:=4) fV.nd) (aK (aL (i:=5) fV.nd) bX)))
   (ai (cQ (pv 5) (kC (pv 3) (pv 4) set_list))))
   (ai (gf (pv 0) (bo bh rfl Z.tuple cf (aB (pv 3))) rfl)))),?_⟩
  obtain⟨dx,hk⟩:=A
  obtain⟨op,ws,rfl,e1,rws⟩:=aJ.bH ho
  have hwl:ws.length=qs.length:=by have:=rws.len;rw [ID] at this;exact this
  have hpl:pvs.length=ps'.length:=by have:=rps.len;rw [ID] at this;exact this
  refine⟨_,rfl,kp,D,dx,_,_,rfl,hk,TK.cl,TK.past,we,op,_,rfl,.inr (aw.of e1),fun so nso=>?_⟩
  refine bu ?_
  have s1:=af.new (o:=.lst ws) nso
  have hso1:(upd H so (.lst ws)) so=some (.lst ws):=aa
  generalize (upd H so (.lst ws))=H1 at s1 hso1 ⊢
  have nla:la≠so:=ar hla nso
  have nlb:lb≠so:=ar hlb nso
  have hvn:(vN ns).length=ns.length:=ID ..
  refine⟨_,rfl,_,rfl,la,lb,rfl,⟨_,aO.of (s1 _ _ hla)⟩,⟨_,aO.of (s1 _ _ hlb)⟩,?_⟩
  refine CF (K:=K) (a:=la) (b:=lb) (xs:=vN ns) (ys:=pvs) (by omega) (fun i IA H'=>∃(u1 u2:Option V) (ws':List V),IA=[some (.ref kp),some (.ref la),some (.ref lb),some (.ref so),u1,u2]/\H' so=some (.lst ws')/\aP H' ws' ((fi qs (ns.take i) (ps'.take i)).map bK)/\af H H') ?_ ?_ ?_ ?_
  ·exact⟨_,_,ws,rfl,hso1,rws.same s1 (bL qs),s1⟩
  ·rintro i IA H2 hi ⟨u1,u2,ws',rfl,h1,h2,s2⟩
   exact⟨aO.of (s2 _ _ hla),aO.of (s2 _ _ hlb)⟩
  ·rintro i x y IA H2 t hx hy ht ⟨u1,u2,ws',rfl,h1,h2,s2⟩
   obtain⟨k,hk',rfl⟩:∃k,ns[i]?=some k/\x=V.int (k:Nat):=by
    unfold vN at hx
    rw [IZ] at hx
    cases z:ns[i]? with
    | none=>rw [z] at hx;cases hx
    | some k=>rw [z] at hx;exact⟨k,rfl,(IU.inj hx).symm⟩
   have hil:i<ps'.length:=by have:=(IY.mp hy).1;omega
   have hpi:ps'[i]?=some ps'[i]:=by simp [hil]
   generalize ps'[i]=pce at hpi
   obtain⟨v,hv,rv⟩:=rps.get (i:=i) (d:=bK pce) (by rw [IZ,hpi];rfl)
   rw [hy] at hv
   cases hv
   have s3:=af.new (o:=.tup [.int (k:Nat),y]) ht
   refine⟨t,_,rfl,aw.of aa,rfl,_,_,rfl,_,_,rfl,rfl,?_⟩
   have h13:=s3 _ _ h1
   have h23:=h2.same s3 (bL _)
   have s03:=s2.trans s3
   generalize (upd H2 t (.tup [.int (k:Nat),y]))=H3 at h13 h23 s03 ⊢
   have hwl':ws'.length=qs.length:=by have:=h2.len;rw [ID,me] at this;exact this
   refine⟨_,rfl,_,rfl,_,rfl,so,_,_,k,rfl,rfl,h13,En (by rw [hwl'];exact hlt k (Ja hk')),?_⟩
   have kt:∀p zs,H3 p=some (.tup zs)->(upd H3 so (.lst (ws'.set k y))) p=some (.tup zs):=fun p zs e=>by rw [ao (bU e h13 (by intro z;cases z))];exact e
   refine⟨_,_,ws'.set k y,rfl,aa,?_,s03.put nso⟩
   rw [take1 hk',take1 hpi,pE _ _ _ _ _ (by rw [Jm,Jm];omega),K9]
   exact aP.setAt ((rv.same s03 (bZ pce)).av kt (bZ pce)) k (h23.av kt (bL _))
  ·rintro IA H2 ⟨u1,u2,ws',rfl,h1,h2,s2⟩
   rw [hvn,Jn,hln,Jn] at h2
   refine⟨_,rfl,so,_,rfl,.inl ⟨aO.of h1,fun t' nt'=>?_⟩⟩
   have s3:=af.new (o:=.tup ws') nt'
   have hk3:=s3 _ _ (s2 _ _ hk)
   refine⟨_,rfl,kp,D,dx,_,rfl,hk3,TK.cl,TK.past,(by show 5<1000;decide),?_⟩
   rw [p8]
   have b4:cm kp (upd H2 t' (.tup ws')) (upd (upd H2 t' (.tup ws')) kp (.ins D dx (fC plv (.int (most:Nat)) (.ref t') cv (.int n)))):=cm.put
   refine q (.ref t') _ (.tup (b4.av hk3 _ _ aa) (h2.av (fun p zs e=>b4.av hk3 _ _ (s3 _ _ e)) (bL _))) ⟨dx,aa⟩ ((cm.of_same (s2.trans s3)).trans b4)
theorem oi {f:Addr} {fd:FuncData} (F:bS K "exchange" "Keeper.exchange" fX f fd) (Z:Bl mg) {D:Addr} (TK:gC K D) (O_with_piece:Own P w K mg base "with_piece" 1 ["plan", "place", "piece"] pB) (O_piece_for:Own P w K mg base "piece_for" 7 ["facts", "piece", "copies"] rL) (O_Keeper_make_anew:iF P w K mg base D "make_anew" 12 ["self"] (ye D)) (O_Keeper_mend:iF P w K mg base D "mend" 1 ["self", "places", "pieces"] (yf D)):aW P w K mg base bQ 13 f fd ["self", "place", "piece"] (yh D):=by
  refine F.ok (k:=12) fP (fun vs H Q E h=>?_) (fun cdv A outer s H vs Q E hr h=>?_)
  . obtain⟨kp,plv,ov,cv,qv,most,k,n,ps,qs,p,cs,ds,xs,rfl,_⟩:=h
    rfl
  . obtain⟨kp,plv,ov,cv,qv,most,k,n,ps,qs,p,cs,ds,xs,rfl,A,hp,ho,hc,cc,hq,hk',ok,tok,hcq,hq4,q⟩:=h
    refine⟨_,(ae (bE (zB (Bu ox jj ah (pv 1) (aU aS rfl Z.len bT (aB (cS (pv 0) rfl)))))
      (ai Bf)
      aV)
      (ae (gf (pv 0) (ay O_with_piece hr (fq (cS (pv 0) rfl) (pv 1) (pv 2))) rfl)
      (ae (gJ (i:=3) ["at", "one"] ["place"] [1] rfl fP.nd rfl rfl rfl (yc rfl Z.enumerate (aB (cS (pv 0) rfl))) rfl (by decide +kernel) (by decide +kernel) (by decide +kernel) ⟨⟨rfl,.inl rfl,rfl⟩,True.intro⟩ (fun _ _ _ _=>(oz (K:=K) (n:=2) rfl (cx (n:=2) rfl (aK (aL (i:=0) (show ((["at", "one"]:List Str)++(["place"]:List Str)).Nodup by decide +kernel) (hf:=Jg rfl)) (aK (aL (i:=1) (show ((["at", "one"]:List Str)++(["place"]:List Str)).Nodup by decide +kernel) (hf:=Jg rfl)) bX))))) (fun _ _ _ _=>(oy (aR cU (aI (vZ (K:=K) rfl) (pv 1) ah) (pv 2) (aZ _)))) (fun _ _ _ _=>(pv 0)))
      (ae (gJ (i:=4) ["at"] ["piece", "self"] [2,0] rfl fP.nd rfl rfl rfl (ow (pv 3)) rfl (by decide +kernel) (by decide +kernel) (by decide +kernel) ⟨⟨rfl,.inl rfl,rfl⟩,⟨⟨rfl,.inl rfl,rfl⟩,True.intro⟩⟩ (fun _ _ _ _=>(aL (i:=0) (show ((["at"]:List Str)++(["piece", "self"]:List Str)).Nodup by decide +kernel) (hf:=Jg rfl))) (fun _ _ _ _=>d9) (fun _ _ _ _=>(ay O_piece_for hr (fq (aI (vZ (K:=K) rfl) (aI (vZ (K:=K) rfl) (oH (K:=K) rfl (pv 2) rfl) (pv 0)) ah) (pv 1) (oH (K:=K) rfl (pv 2) rfl)))))
      (ae (bE (aR (CI (sO hr)) fh (pv 4) (by with_unfolding_all rfl))
      (ae (dD (gK O_Keeper_make_anew (pv 0) (hr.mono (by decide))))
      (ai (aF fh)))
      aV)
      (ae (dD (kO O_Keeper_mend (pv 0) (hr.mono (by decide)) (aG (pv 3) (pv 4))))
      (ai (aF (bo bh rfl Z.tuple cf (aB (pv 3))))))))))),?_⟩
    obtain⟨dx,hk⟩:=A
    obtain⟨pp,vs,rfl,e1,rvs⟩:=aJ.bH (show aJ H plv (.tuple (ps.map bK)) from hp)
    have hvl:vs.length=ps.length:=by have:=rvs.len;rw [ID] at this;exact this
    refine⟨_,rfl,_,_,rfl,rfl,_,rfl,?_⟩
    refine dn (decide_eq_true (by omega)) ?_
    refine⟨_,rfl,kp,D,dx,_,_,rfl,hk,TK.cl,TK.kept,ma,pp,_,rfl,.inr (aw.of e1),_,_,rfl,rfl,_,rfl,?_⟩
    refine bP (by rw [decide_eq_true (by omega)];rfl) ?_
    refine⟨_,rfl,kp,D,dx,_,_,rfl,hk,TK.cl,TK.kept,ma,_,rfl,_,rfl,.ref pp,qv,ps,p,k,rfl,hp,hq,hk',(by have:=ok.pD;rw [JG] at this;omega),fun plv' H1 r1 s1=>?_⟩
    have hk1:=s1 _ _ hk
    refine⟨_,rfl,kp,D,dx,_,rfl,hk1,TK.cl,TK.kept,(by show 5<1000;decide),?_⟩
    rw [CG]
    have b2:cm kp H1 (upd H1 kp (.ins D dx (fC plv' (.int (most:Nat)) ov cv (.int n)))):=cm.put
    have k2:=b2.av hk1
    have hk2:(upd H1 kp (.ins D dx (fC plv' (.int (most:Nat)) ov cv (.int n)))) kp=some (.ins D dx (fC plv' (.int (most:Nat)) ov cv (.int n))):=aa
    generalize (upd H1 kp (.ins D dx (fC plv' (.int (most:Nat)) ov cv (.int n))))=H2 at b2 k2 hk2 ⊢
    have kt2:∀p zs,H p=some (.tup zs)->H2 p=some (.tup zs):=fun p zs e=>k2 _ _ (s1 _ _ e)
    have r2:=r1.av k2 (aH _)
    have ho2:=ho.av kt2 (aH qs)
    have hc2:=hc.av kt2 (fU cc)
    have hq2:=hq.av kt2 (bZ p)
    obtain⟨cp,cvs,rfl,hcp,rcvs⟩:=aJ.bH hc2
    have pps2:=AQ rcvs cc
    have hcl:cvs.length=cs.length:=by have:=eM pps2;rw [ID] at this;exact this
    have b02:cm kp H H2:=(cm.of_same s1).trans b2
    clear s1 hk1 b2 k2 r1
    refine⟨_,rfl,kp,D,dx,_,_,rfl,hk2,TK.cl,TK.lg,jt,cp,rfl,.inl ⟨⟨_,aw.of hcp⟩,fun acc na=>?_⟩⟩
    refine Ep (Sq:=aw K) (a:=cp) (xs:=cvs) (fun i zs IB H'=>∃(c1 c2:Option V),IB=[c1,c2,some (.int (k:Nat))]/\zs=vN (ja cs k i)/\H' acc=some (.lst zs)/\af H2 H') ?_ ?_ ?_ ?_
    . exact⟨none,none,rfl,rfl,aa,af.new na⟩
    . rintro i zs IB H3 hi ⟨c1,c2,rfl,rfl,ha,s3⟩
      refine⟨aw.of (s3 _ _ hcp),ha,bp ?_⟩
      have:=wj (cs:=cs) (k:=k) (i:=i)
      rw [ID]
      omega
    . rintro i x zs IB H3 t hx ht ⟨c1,c2,rfl,rfl,ha,s3⟩
      obtain⟨c0,hc0,oq,ou,rfl,hoq,hou⟩:=L2.fJ pps2 hx
      obtain⟨c,hcs,rfl⟩:∃c,cs[i]?=some c/\ip c=c0:=by
        rw [IZ] at hc0
        cases z:cs[i]? with
        | none=>rw [z] at hc0;cases hc0
        | some c=>rw [z] at hc0;exact⟨c,rfl,IU.inj hc0⟩
      have s4:=s3.trans (af.new (o:=.tup [.int (i:Nat),.ref oq]) ht)
      have ha4:=af.new (o:=.tup [.int (i:Nat),.ref oq]) ht _ _ ha
      refine⟨t,_,rfl,aw.of aa,rfl,_,_,rfl,_,_,rfl,rfl,?_⟩
      generalize (upd H3 t (.tup [.int (i:Nat),.ref oq]))=H4 at s4 ha4 ⊢
      refine⟨_,rfl,oq,_,0,_,rfl,rfl,aw.of (s4 _ _ hoq),eE,_,rfl,rfl,_,rfl,?_⟩
      by_cases hck:c.1=k
      . refine dn (decide_eq_true (by show V.int ((c.1:Nat):Int)=_;rw [hck])) ?_
        refine⟨_,rfl,ha4,_,_,rfl,?_,aa,s4.put na⟩
        rw [CJ hcs hck]
        unfold vN
        rw [IT]
        rfl
      . refine bP (decide_eq_false fun z=>hck (by injection z with z;exact Int.ofNat.inj z)) ?_
        exact⟨_,_,rfl,by rw [Ey hcs hck],ha4,s4⟩
    rintro zs IB H3 ⟨c1,c2,rfl,rfl,ha,s3⟩
    rw [hcl] at ha
    have hpls:ja cs k cs.length=eR cs k:=rfl
    rw [hpls] at ha
    refine bu ?_
    have kt3:∀p zs,H2 p=some (.tup zs)->H3 p=some (.tup zs):=fun p zs e=>s3 _ _ e
    obtain⟨pc,qvs,rfl,hpc,rq⟩:=aJ.bH (show aJ H2 qv (.tuple [.tuple (p.1.map cu),eX p.2]) from hq2)
    obtain⟨y1,t1,rfl,q1,rq⟩:=rq.cons_inv
    obtain⟨y2,t2,rfl,q2,rq⟩:=rq.cons_inv
    have z:=rq.nil_inv
    subst z
    obtain⟨da,wd,rfl,hda,rds⟩:=aJ.bH q1
    obtain⟨ea,rfl,hea⟩:=Ae q2
    have hmp:p∈ps.set k p:=List.mem_set hk' p
    have layp:=jO ok.gm ok.bW p hmp
    have dokp:=ok.bW.fb p hmp
    have fewc:∀c∈cs.map ip,lU c.2 63:=fun c hc=>by
      obtain⟨c',hc',rfl⟩:=IS.mp hc
      exact fun ss a b=>IQ ((tok c' hc').b8 ss a b) (by have:=ok.b8;omega)
    refine⟨_,rfl,acc,rfl,⟨_,aO.of ha⟩,fun acc2 na2=>?_⟩
    refine sy (K:=K) (a:=acc) (xs:=vN (eR cs k)) (fun i ys IB H'=>∃(c1:Option V) (os:List (Option L2.End)),IB=[c1,some (.ref pc),some (.ref kp)]/\nO cs p ((eR cs k).take i) os/\aP H' ys (os.map (rM p))/\H' acc2=some (.lst ys)/\af H3 H') ?_ ?_ ?_ ?_
    . exact⟨none,[],rfl,.nil,.nil,aa,af.new na2⟩
    . rintro i ys IB H4 hi ⟨c1,os,rfl,g1,g2,ha2,s4⟩
      refine⟨aO.of (s4 _ _ ha),ha2,bp ?_⟩
      have h1:=eM g1
      have h2:=g2.len
      have h3:=wj (cs:=cs) (k:=k) (i:=cs.length)
      rw [hpls] at h3
      rw [Jm] at h1
      rw [ID] at h2
      omega
    . rintro i x ys IB H4 hx' ⟨c1,os,rfl,g1,g2,ha2,s4⟩
      obtain⟨j,hj,rfl⟩:∃j,(eR cs k)[i]?=some j/\x=V.int (j:Nat):=by
        unfold vN at hx'
        rw [IZ] at hx'
        cases z:(eR cs k)[i]? with
        | none=>rw [z] at hx';cases hx'
        | some j=>rw [z] at hx';exact⟨j,rfl,(IU.inj hx').symm⟩
      obtain⟨c,hcj,hck⟩:=(yg (cs:=cs) (k:=k) (i:=cs.length) (Ja hj)).2
      obtain⟨cv1,hcv1,oq,ou,rfl,hoq,hou⟩:=lY pps2 (show (cs.map ip)[j]?=some (ip c) by rw [IZ,hcj];rfl)
      have s24:=s3.trans s4
      refine bu ?_
      refine i7 ?_
      refine bJ ?_
      refine⟨_,rfl,kp,D,dx,_,_,rfl,(s24 _ _ hk2),TK.cl,TK.lg,jt,_,rfl,cp,_,_,_,rfl,rfl,aw.of (s24 _ _ hcp),cJ hcv1,oq,_,1,_,rfl,rfl,aw.of (s24 _ _ hoq),en,_,rfl,_,rfl,kp,D,dx,_,_,rfl,(s24 _ _ hk2),TK.cl,TK.lg,jt,ou,pc,da,ea,cp,wd,cvs,p.1,p.2,cs.map ip,c.2,xs,rfl,FV.same hou s24,s24 _ _ hpc,s24 _ _ hda,rds.same s24 (aQ p.1),s24 _ _ hea,s24 _ _ hcp,pps2.same s24,tok c (Ja hcj),dokp.2,dokp.1,ok.b8,fewc,fun v o H5 hP hn hs s5=>?_⟩
      have ha5:=s5 _ _ ha2
      have kt:∀p zs,H5 p=some (.tup zs)->(upd H5 acc2 (.lst (ys++[v]))) p=some (.tup zs):=fun p zs e=>by rw [ao (bU e ha5 (by intro z;cases z))];exact e
      have rv:aJ H5 v (rM p o):=by
        cases o with
        | none=>rw [hn rfl];exact .bg
        | some e' =>
          obtain⟨t,ea',rfl,ht,hea'⟩:=hs e' rfl
          exact .tup ht (.cons (.tup (s5 _ _ (s24 _ _ hda)) ((rds.same s24 (aQ p.1)).same s5 (aQ p.1))) (.cons (nu hea') .nil))
      have nL:bA (rM p o)=true:=by cases o <;> first | rfl | exact bZ _
      refine⟨ha5,_,os++[o],rfl,?_,?_,aa,(s4.trans s5).put na2⟩
      . rw [take1 hj]
        exact L2.eJ g1 (.cons ⟨c,hcj,hP⟩ .nil)
      . rw [IT]
        exact aP.app ((g2.same s5 (rN p os)).av kt (rN p os)) (rv.av kt nL)
    rintro ys IB H4 ⟨c1,os,rfl,g1,g2,ha2,s4⟩
    have hvl2:(vN (eR cs k)).length=(eR cs k).length:=ID ..
    rw [hvl2,Jn] at g1
    refine bu ?_
    refine⟨_,rfl,acc2,_,_,rfl,rfl,aO.of ha2,g2,FY layp.1 layp.2 g1,_,rfl,?_⟩
    have s24:=s3.trans s4
    have hk4:=s24 _ _ hk2
    have r4:=r2.same s24 (aH _)
    have ho4:=ho2.same s24 (aH qs)
    obtain⟨qA,qB⟩:=q os g1
    by_cases hn:none∈os
    . refine dn (decide_eq_true (yi.mpr hn)) ?_
      refine⟨_,rfl,kp,dx,_,rfl,hk4,uL,kp,plv',ov,.ref cp,ps.set k p,xs,most,n,rfl,⟨dx,hk4⟩,r4,ok,fun ov' cv' ds' H5 cc' ro' rc' A' b5=>?_⟩
      exact qA hn plv' ov' cv' ds' H5 (r4.av (b5.av hk4) (aH _)) cc' ro' rc' A' ((b02.trans (cm.of_same s24)).trans b5)
    . refine bP (decide_eq_false fun z=>hn (yi.mp z)) ?_
      obtain⟨es,rfl⟩:=AV hn
      have rps:aP H4 ys ((es.map fun e=>((p.1,e):Piece)).map bK):=by
        have e:((es.map some).map (rM p))=(es.map fun e=>((p.1,e):Piece)).map bK:=by rw [JN,JN];rfl
        rw [<-e];exact g2
      have hlen:(eR cs k).length=(es.map fun e=>((p.1,e):Piece)).length:=by have:=eM g1;rw [ID] at this;rw [ID];exact this
      refine⟨_,rfl,kp,dx,_,rfl,hk4,CH,_,rfl,_,rfl,kp,acc,acc2,plv',ov,.ref cp,most,n,eR cs k,ys,qs,_,rfl,⟨dx,hk4⟩,ho4,(by omega),s4 _ _ ha,ha2,rps,hlen,(fun j hj=>by have:=(yg (cs:=cs) (k:=k) (i:=cs.length) hj).1;omega),fun ov' H5 ro' A' b5=>?_⟩
      have ha5:=b5 _ _ (s4 _ _ ha) (bU (s4 _ _ ha) hk4 (by intro z;cases z))
      refine⟨_,rfl,acc,_,rfl,.inl ⟨aO.of ha5,fun t nt=>?_⟩⟩
      have s6:=af.new (o:=.tup (vN (eR cs k))) nt
      obtain⟨dx',hk5⟩:=A'
      exact qB es rfl plv' ov' t _ aa ((r4.av (b5.av hk4) (aH _)).same s6 (aH _)) (ro'.same s6 (aH _)) ⟨dx',s6 _ _ hk5⟩ (((b02.trans (cm.of_same s24)).trans b5).trans (cm.of_same s6))
theorem tG {f:Addr} {fd:FuncData} (F:bS K "plan" "Keeper.plan" je f fd) (Z:Bl mg) {D:Addr} (TK:gC K D)  : aW P w K mg base bQ 1 f fd ["self"] (gr D 0):=by
 refine F.ok (k:=0) tw (fun vs H Q E h=>?_) (fun cdv A outer s H vs Q E hr h=>?_)
 ·obtain⟨kp,plv,ov,cv,most,n,rfl,_⟩:=h
  rfl
 ·obtain⟨kp,plv,ov,cv,most,n,rfl,A,q⟩:=h
  refine⟨_,(ai (aF (cS (pv 0) rfl))),?_⟩
  obtain⟨dx,hk⟩:=A
  exact⟨_,rfl,kp,D,dx,_,_,rfl,hk,TK.cl,TK.kept,ma,q⟩
theorem sd {f:Addr} {fd:FuncData} (F:bS K "other" "Keeper.other" iO f fd) (Z:Bl mg) {D:Addr} (TK:gC K D)  : aW P w K mg base bQ 1 f fd ["self"] (gr D 1):=by
 refine F.ok (k:=0) rV (fun vs H Q E h=>?_) (fun cdv A outer s H vs Q E hr h=>?_)
 ·obtain⟨kp,plv,ov,cv,most,n,rfl,_⟩:=h
  rfl
 ·obtain⟨kp,plv,ov,cv,most,n,rfl,A,q⟩:=h
  refine⟨_,(ai (aF (cS (pv 0) rfl))),?_⟩
  obtain⟨dx,hk⟩:=A
  exact⟨_,rfl,kp,D,dx,_,_,rfl,hk,TK.cl,TK.past,we,q⟩
theorem se {f:Addr} {fd:FuncData} (F:bS K "paper" "Keeper.paper" iP f fd) (Z:Bl mg) {D:Addr} (TK:gC K D)  : aW P w K mg base bQ 1 f fd ["self"] (gr D 2):=by
 refine F.ok (k:=0) rW (fun vs H Q E h=>?_) (fun cdv A outer s H vs Q E hr h=>?_)
 ·obtain⟨kp,plv,ov,cv,most,n,rfl,_⟩:=h
  rfl
 ·obtain⟨kp,plv,ov,cv,most,n,rfl,A,q⟩:=h
  refine⟨_,(ai (aF (cS (pv 0) rfl))),?_⟩
  obtain⟨dx,hk⟩:=A
  exact⟨_,rfl,kp,D,dx,_,_,rfl,hk,TK.cl,TK.lg,jt,q⟩
theorem tH {f:Addr} {fd:FuncData} (F:bS K "made" "Keeper.made" jf f fd) (Z:Bl mg) {D:Addr} (TK:gC K D)  : aW P w K mg base bQ 1 f fd ["self"] (gr D 3):=by
 refine F.ok (k:=0) tD (fun vs H Q E h=>?_) (fun cdv A outer s H vs Q E hr h=>?_)
 ·obtain⟨kp,plv,ov,cv,most,n,rfl,_⟩:=h
  rfl
 ·obtain⟨kp,plv,ov,cv,most,n,rfl,A,q⟩:=h
  refine⟨_,(ai (aF (cS (pv 0) rfl))),?_⟩
  obtain⟨dx,hk⟩:=A
  exact⟨_,rfl,kp,D,dx,_,_,rfl,hk,TK.cl,TK.times,ux,q⟩
theorem zt {f:Addr} {fd:FuncData} (F:bS K "_law_bag" "_law_bag" oa f fd) (Z:Bl mg)  : aW P w K mg base bQ 1 f fd ["script", "k"] (C4 K):=by
 refine F.ok (k:=0) mq (fun vs H Q E h=>?_) (fun cdv A outer s H vs Q E hr h=>?_)
 ·obtain⟨a,ns,k,rfl,_⟩:=h
  rfl
 ·obtain⟨a,ns,k,rfl,hS,hk,q⟩:=h
  refine⟨_,(ae (aY (i:=2) mq.nd ah)
   (ae (bE (aR jj (pv 1) (aU aS rfl Z.len bT (aB (pv 0))) (aZ _))
   (ai (aY (i:=2) mq.nd (bf jE (aI bG (pv 0) (pv 1)) (bf DN (bf qt ah ah) (bf qt ah ah)))))
   aV)
   (ae (bE (aR jj (pv 2) (bf qt ah ah) (aZ _))
   (ai (aF (cY (aG ah (bf du ah (bf jE (bf du (bf kF (pv 2) ah) (bf kF ah (pv 1))) ah))))))
   aV)
   (ai (aF (cY (aG (pv 2) (bf du ah (bf jE (bf du (pv 2) (pv 1)) ah))))))))),?_⟩
  refine⟨_,rfl,_,rfl,_,_,rfl,.inl hS,_,_,rfl,rfl,_,rfl,?_⟩
  refine dW (fun hc=>?_) (fun hc=>?_)
  ·have hl:k<((ns.map V.int).length:Nat):=of_decide_eq_true hc
   obtain⟨v,hv,hm⟩:=yJ hk hl
   obtain⟨z,_,rfl⟩:=IS.mp hm
   refine⟨_,rfl,_,rfl,_,_,_,_,rfl,rfl,hS,hv,10,60,rfl,rfl,⟨by decide,by decide,by decide⟩,10,60,rfl,rfl,⟨by decide,by decide,by decide⟩,_,_,rfl,rfl,(by unfold IntMulOk;decide +kernel),_,_,rfl,rfl,(show (0:Int)<10 ^ (60:Int).toNat*10 ^ (60:Int).toNat by decide +kernel),?_⟩
   refine⟨_,rfl,10,18,rfl,rfl,⟨by decide,by decide,by decide⟩,_,_,rfl,rfl,_,rfl,?_⟩
   refine dW (fun hd=>?_) (fun hd=>?_)
   ·refine⟨_,rfl,_,_,rfl,rfl,.inr ⟨by decide,by decide⟩,_,rfl,_,_,rfl,rfl,.inl ⟨by decide,by decide⟩,_,_,rfl,rfl,_,_,rfl,rfl,(show (0:Int)<2147483646 by decide),_,_,rfl,rfl,ln2,fun p hp=>?_⟩
    exact q p _ hp ⟨_,_,aa,by omega,by omega⟩ (af.new hp)
   ·refine⟨_,rfl,_,rfl,_,rfl,_,_,rfl,rfl,_,_,rfl,rfl,(show (0:Int)<2147483646 by decide),_,_,rfl,rfl,ln2,fun p hp=>?_⟩
    exact q p _ hp ⟨_,_,aa,by omega,by omega⟩ (af.new hp)
  ·refine⟨_,rfl,10,18,rfl,rfl,⟨by decide,by decide,by decide⟩,_,_,rfl,rfl,_,rfl,?_⟩
   refine dW (fun hd=>?_) (fun hd=>?_)
   ·refine⟨_,rfl,_,_,rfl,rfl,.inr ⟨by decide,by decide⟩,_,rfl,_,_,rfl,rfl,.inl ⟨by decide,by decide⟩,_,_,rfl,rfl,_,_,rfl,rfl,(show (0:Int)<2147483646 by decide),_,_,rfl,rfl,ln2,fun p hp=>?_⟩
    exact q p _ hp ⟨_,_,aa,by omega,by omega⟩ (af.new hp)
   ·refine⟨_,rfl,_,rfl,_,rfl,_,_,rfl,rfl,_,_,rfl,rfl,(show (0:Int)<2147483646 by decide),_,_,rfl,rfl,ln2,fun p hp=>?_⟩
    exact q p _ hp ⟨_,_,aa,by omega,by omega⟩ (af.new hp)
theorem w9 {f:Addr} {fd:FuncData} (F:bS K "_law_take" "_law_take" mr f fd) (Z:Bl mg)  : aW P w K mg base bQ 1 f fd ["bag", "many"] iX:=by
 refine F.ok (k:=0) pH (fun vs H Q E h=>?_) (fun cdv A outer s H vs Q E hr h=>?_)
 ·obtain⟨b,m,rfl,_⟩:=h
  rfl
 ·obtain⟨b,m,rfl,⟨x,y,hb,h0,h1⟩,hm,q⟩:=h
  refine⟨_,(ae (bE (aR qu (aI bG (pv 0) ah) ah (aZ _))
   (ae (aY (i:=2) pH.nd (bf jE (aI bG (pv 0) ah) (pv 1)))
   (ae (cQ (bf BH (aI bG (pv 0) ah) (pv 1)) (kC (pv 0) ah set_list))
   (ai (aF (pv 2)))))
   aV)
   (ae (cQ (bf jE (bf kF (aI bG (pv 0) ah) ah) ah) (kC (pv 0) ah set_list))
   (ai (aF (bf jE (bf xj (bf jE (bf kF (aI bG (pv 0) ah) (aI bG (pv 0) ah)) ah) ah) (pv 1)))))),?_⟩
  refine⟨_,rfl,b,_,0,_,rfl,rfl,aO.of hb,eE,_,_,rfl,rfl,_,rfl,?_⟩
  refine dW (fun hc=>?_) (fun hc=>?_)
  ·refine⟨_,rfl,b,_,0,_,rfl,rfl,aO.of hb,eE,_,rfl,_,_,rfl,rfl,hm.1,?_⟩
   refine⟨_,rfl,b,_,0,_,rfl,rfl,aO.of hb,eE,_,rfl,_,_,rfl,rfl,hm,_,rfl,b,_,0,0,rfl,rfl,hb,rfl,?_⟩
   refine⟨_,rfl,?_⟩
   exact q _ _ (Int.emod_nonneg _ (by have:=hm.1;omega)) (Int.emod_lt_of_pos _ hm.1) ⟨_,_,aa,h0,h1⟩ Fix.C3
  ·refine⟨_,rfl,b,_,1,_,rfl,rfl,aO.of hb,en,_,_,rfl,rfl,.inr ⟨by decide,by decide⟩,_,_,rfl,rfl,(show (0:Int)<2147483647 by decide),_,rfl,b,_,1,1,rfl,rfl,hb,rfl,?_⟩
   refine⟨_,rfl,b,_,1,_,rfl,rfl,aO.of aa,en,_,rfl,b,_,1,_,rfl,rfl,aO.of aa,en,_,_,rfl,rfl,.inl ⟨by omega,by omega⟩,_,_,rfl,rfl,(show (0:Int)<2147483629 by decide),_,_,rfl,rfl,⟨by decide,by decide⟩,_,rfl,_,_,rfl,rfl,hm.1,?_⟩
   exact q _ _ (Int.emod_nonneg _ (by have:=hm.1;omega)) (Int.emod_lt_of_pos _ hm.1) ⟨_,_,aa,by omega,by omega⟩ Fix.C3
theorem wF {f:Addr} {fd:FuncData} (F:bS K "_law_names" "_law_names" kn f fd) (Z:Bl mg) (O_law_take:Own P w K mg base "_law_take" 1 ["bag", "many"] iX):aW P w K mg base bQ 2 f fd ["bag"] xD:=by
  refine F.ok (k:=1) dG (fun vs H Q E h=>?_) (fun cdv A outer s H vs Q E hr h=>?_)
  . obtain⟨b,rfl,_⟩:=h
    rfl
  . obtain⟨b,rfl,hB,q⟩:=h
    refine⟨_,(ae (aY (i:=1) dG.nd b0)
      (ae (aY (i:=2) dG.nd (bf du ah (ay O_law_take hr (aG (pv 0) ah))))
      (ae (gJ (i:=3) ["k"] ["letters", "bag"] [1,0] rfl dG.nd rfl rfl rfl (fF rfl Z.range (aB (bf du ah (ay O_law_take hr (aG (pv 0) ah))))) rfl (by decide +kernel) (by decide +kernel) (by decide +kernel) ⟨⟨rfl,.inl rfl,rfl⟩,⟨⟨rfl,.inl rfl,rfl⟩,True.intro⟩⟩ (fun _ _ _ _=>(aL (i:=0) (show ((["k"]:List Str)++(["letters", "bag"]:List Str)).Nodup by decide +kernel) (hf:=Jg rfl))) (fun _ _ _ _=>d9) (fun _ _ _ _=>(aI zN (pv 1) (ay O_law_take hr (aG (pv 2) ah)))))
      (ae (aY (i:=4) dG.nd (ay O_law_take hr (aG (pv 0) (aU aS rfl Z.len bT (aB (pv 3))))))
      (ae (aY (i:=5) dG.nd (cY dz))
      (ae (eG PassesOwn.never rfl (fF rfl Z.range (aB (pv 2))) (aL (i:=6) dG.nd)
      (ae (aY (i:=7) dG.nd (bo mV rfl Z.list xu (aB (pv 3))))
      (ae (cQ (aI zN (pv 1) (ay O_law_take hr (aG (pv 0) ah))) (kC (pv 7) (pv 4) set_list))
      (ai (bE (aR vj (gy PySem.F.plainAttrs_str PySem.F.slot_str_join PySem.F.type_str_join xC b0 (aB (pv 7))) (pv 5) (by with_unfolding_all rfl))
      (ai (dD (gy PySem.F.plainAttrs_list PySem.F.slot_list_append PySem.F.type_list_append eI (pv 5) (aB (gy PySem.F.plainAttrs_str PySem.F.slot_str_join PySem.F.type_str_join xC b0 (aB (pv 7)))))))
      aV)))))
      (ai (aF (pv 5))))))))),?_⟩
    refine⟨_,rfl,b,4,rfl,hB,⟨by decide,by decide +kernel⟩,fun m H1 m0 m1 B1 X1=>⟨_,_,rfl,rfl,?_⟩⟩
    refine⟨_,rfl,b,8,rfl,B1,⟨by decide,by decide +kernel⟩,fun k H2 k0 k1 B2 X2=>⟨_,_,rfl,rfl,_,rfl,(by omega),(by omega),fun acc na=>?_⟩⟩
    refine lC (lo:=0) (fun i ys IB H'=>∃(v:Option V) (cs:List Nat),IB=[v,some (.str qH),some (.ref b)]/\ys=(cs.map one).map V.str/\cs.length=i/\(∀c∈cs,97<=c/\c<=122)/\H' acc=some (.lst ys)/\cT H' b/\Fix b H2 H') ?_ ?_ ?_ ?_
    . exact⟨none,[],rfl,rfl,rfl,(fun _ h=>nomatch h),aa,B2.new na,Fix.new na⟩
    . rintro i ys IB H' hi ⟨v,cs,rfl,rfl,hl,_,ha,_⟩
      refine⟨ha,?_⟩
      rw [ID,ID]
      exact bp (by omega)
    . rintro i ys IB H' hi ⟨v,cs,rfl,rfl,hl,hc,ha,B',X'⟩
      refine bu ?_
      refine i7 ?_
      refine bJ ?_
      refine⟨_,rfl,_,rfl,b,26,rfl,B',⟨by decide,by decide +kernel⟩,fun r H3 r0 r1 B3 X3=>?_⟩
      obtain⟨c,hat,c0,c1⟩:=z9 r0 r1
      have hab:acc≠b:=B2.er na
      have ha3:=X3 acc _ ha hab
      refine⟨qH,r,c,rfl,rfl,xE,hat,ha3,_,cs++[c],rfl,?_,?_,?_,aa,?_,?_⟩
      . rw [IT,IT];rfl
      . rw [IJ,hl];rfl
      . intro d hd
        rcases IV.mp hd with hd | hd
        . exact hc d hd
        . rw [IH.mp hd];exact⟨c0,c1⟩
      . obtain⟨x,y,e,z⟩:=B3
        exact⟨x,y,by rw [ao hab.symm];exact e,z⟩
      . intro d o hd nd
        rw [ao (ar hd na)]
        exact (X'.trans X3) d o hd nd
    . rintro ys IB H3 ⟨v,cs,rfl,rfl,hl,hc,ha,B3,X3⟩
      have hab:acc≠b:=B2.er na
      have hl1:1<=cs.length:=by omega
      have hl8:cs.length<=8:=by omega
      have F3:Fix b H H3:=(X1.trans X2).trans X3
      have el:(((cs.map one).map V.str).length:Int)=cs.length:=by simp
      refine⟨_,rfl,_,rfl,acc,_,rfl,.inl (aO.of ha),b,_,rfl,B3,⟨by omega,ib (by omega) (by omega)⟩,fun at_ H4 t0 t1 B4 X4=>?_⟩
      refine⟨(by show 0<=sizeLine;decide),fun nl nn=>?_⟩
      have hnb:nl≠b:=B4.er nn
      have ha4:H4 acc=some (.lst ((cs.map one).map V.str)):=X4 acc _ ha hab
      have hna:nl≠acc:=fun z=>by rw [z,ha4] at nn;cases nn
      have F4:Fix b H H4:=F3.trans X4
      refine⟨_,rfl,_,rfl,(by omega),(by omega),mS (lo:=0) (fun i IA H'=>∃(u1 u2:Option V) (xs:List Str),IA=[some (.ref b),some (.str qH),some (.int (1+m)),some (.ref acc),some (.int at_),some (.ref nl),u1,u2] /\
        H' nl=some (.lst (xs.map V.str))/\xs.length<=i/\(0<i->xs≠[])/\(∀x∈xs,dP x)/\H' acc=some (.lst ((cs.map one).map V.str))/\cT H' b/\Fix b H H') ?_ ?_ ?_⟩
      . exact⟨_,_,[],rfl,aa,IF _,(fun h=>absurd h (Jd _)),(fun _ h=>nomatch h),(by rw [ao hna.symm];exact ha4),B4.new nn,F4.trans (Fix.new nn)⟩
      . rintro i IA H' hi ⟨u1,u2,xs,rfl,hn,hx,hx0,aN,ha',B',X'⟩
        refine⟨_,rfl,acc,_,rfl,.inl (aO.of ha'),fun nm mm=>?_⟩
        have nmb:nm≠b:=B'.er mm
        have nma:nm≠acc:=fun z=>by rw [z,ha'] at mm;cases mm
        have nmn:nm≠nl:=fun z=>by rw [z,hn] at mm;cases mm
        refine⟨_,rfl,_,rfl,b,26,rfl,B'.new mm,⟨by decide,by decide +kernel⟩,fun r H5 r0 r1 B5 X5=>?_⟩
        obtain⟨c,hat,c0,c1⟩:=z9 r0 r1
        have h5:H5 nm=some (.lst ((cs.map one).map V.str)):=X5 nm _ aa nmb
        have hn5:H5 nl=some (.lst (xs.map V.str)):=X5 nl _ (by rw [ao nmn.symm];exact hn) hnb
        have ha5:H5 acc=some (.lst ((cs.map one).map V.str)):=X5 acc _ (by rw [ao nma.symm];exact ha') hab
        obtain⟨j,rfl⟩:∃j:Nat,at_=j:=⟨at_.toNat,by omega⟩
        have hj:j<cs.length:=by omega
        have hix:mC ((cs.map one).map V.str).length (j:Int)=some j:=by
          unfold mC
          rw [if_pos (by omega),if_pos (by rw [el];omega)]
          simp
        refine⟨qH,r,c,rfl,rfl,xE,hat,_,rfl,_,rfl,nm,_,(j:Int),j,rfl,rfl,h5,hix,?_⟩
        have eset:((cs.map one).map V.str).set j (.str ⟨#[c]⟩)=((cs.set j c).map one).map V.str:=by
          rw [K9,K9];rfl
        rw [eset]
        have hc':∀d∈cs.set j c,97<=d/\d<=122:=fun d hd=>by
          rcases K8 hd with hd | hd
          . exact hc d hd
          . rw [hd];exact⟨c0,c1⟩
        have hjl:(((cs.set j c).map one).map (·.length)).sum+((cs.set j c).map one).length*(Str.ofString "").length<=16777216:=by
          have e1:(Str.ofString "").length=0:=by decide +kernel
          have e2:∀l:List Nat,((l.map one).map (·.length)).sum=l.length:=by
            intro l
            induction l with
            | nil=>rfl
            | cons a l ih=>simp only [Jj,List.sum_cons,ih,Jr];show 1+l.length=_;omega
          rw [e1,e2,JG]
          omega
        have nk:dP (Txt.join (Str.ofString "") ((cs.set j c).map one)):=by
          rw [BJ]
          have ej:=L2.join_ones (cs.set j c)
          have eL:(Txt.join Str.empty ((cs.set j c).map one)).length=(cs.set j c).length:=by
            have:=congrArg JX ej
            rw [JA] at this
            exact this
          refine⟨?_,?_,?_⟩
          . rw [eL,JG];exact hl1
          . rw [eL,JG];exact hl8
          . rw [ej];exact hc'
        have n6:upd H5 nm (.lst (((cs.set j c).map one).map V.str)) nl=some (.lst (xs.map V.str)):=by rw [ao nmn.symm];exact hn5
        have a6:upd H5 nm (.lst (((cs.set j c).map one).map V.str)) acc=some (.lst ((cs.map one).map V.str)):=by rw [ao nma.symm];exact ha5
        have B6:cT (upd H5 nm (.lst (((cs.set j c).map one).map V.str))) b:=by
          obtain⟨x,y,e,z⟩:=B5
          exact⟨x,y,by rw [ao nmb.symm];exact e,z⟩
        have F6:Fix b H (upd H5 nm (.lst (((cs.set j c).map one).map V.str))):=fun d o hd nd=>by
          have h1:=X' d o hd nd
          have nd':d≠nm:=fun z=>by rw [z,mm] at h1;cases h1
          rw [ao nd']
          exact X5 d o (by rw [ao nd'];exact h1) nd
        have flat:(xs.map V.str).all h9=true:=by
          rw [Ki]
          intro v hv
          obtain⟨x,_,rfl⟩:=IS.mp hv
          rfl
        refine⟨rfl,_,rfl,_,nm,_,rfl,rfl,aO.of aa,hjl,_,rfl,nl,_,rfl,.inl (aO.of n6),rfl,flat,_,rfl,?_⟩
        refine dW (fun hin=>?_) (fun hin=>?_)
        . refine⟨_,rfl,.inl ⟨rfl,_,aO.of n6⟩,rfl,_,rfl,_,nm,_,rfl,rfl,aO.of aa,hjl,nl,_,_,rfl,rfl,n6,?_,?_⟩
          . rw [ID]
            have:i<4:=by omega
            exact bp (by omega)
          . refine⟨_,_,xs++[_],rfl,(by rw [aa,IT];rfl),(by rw [IJ];exact Nat.succ_le_succ hx),(fun _=>by simp),?_,(by rw [ao hna.symm];exact a6),?_,?_⟩
            . intro x hxm
              rcases IV.mp hxm with hxm | hxm
              . exact aN x hxm
              . rw [IH.mp hxm];exact nk
            . obtain⟨x,y,e,z⟩:=B6
              exact⟨x,y,by rw [ao hnb.symm];exact e,z⟩
            . intro d o hd nd
              have h1:=F6 d o hd nd
              have nd':d≠nl:=fun z=>by
                have h2:=F4 d o hd nd
                rw [z,nn] at h2
                cases h2
              rw [ao nd']
              exact h1
        . have hx':xs≠[]:=by
            intro e
            subst e
            exact hin rfl
          exact⟨_,_,xs,rfl,n6,Nat.le_succ_of_le hx,fun _=>hx',aN,a6,B6,F6⟩
      . rintro IA H' ⟨u1,u2,xs,rfl,hn,hx,hx0,aN,ha',B',X'⟩
        refine⟨_,rfl,?_⟩
        have hm:(1+m).toNat<=4:=by omega
        have hm0:0<(1+m).toNat:=by omega
        exact q nl xs H' ⟨hn,hnb,hx0 hm0,by omega,aN⟩ (IQ hx hm) B' X'
theorem uS {f:Addr} {fd:FuncData} (F:bS K "_law_number" "_law_number" jW f fd) (Z:Bl mg) (O_law_take:Own P w K mg base "_law_take" 1 ["bag", "many"] iX):aW P w K mg base bQ 2 f fd ["bag"] lG:=by
 refine F.ok (k:=1) uO (fun vs H Q E h=>?_) (fun cdv A outer s H vs Q E hr h=>?_)
 ·obtain⟨b,rfl,_⟩:=h
  rfl
 ·obtain⟨b,rfl,hB,q⟩:=h
  refine⟨_,(ae (bE (aR cU (ay O_law_take hr (aG (pv 0) ah)) ah (aZ _))
   (ai (aF (bf kF (bf gd (bf gd (bf qt ah ah) ah) (ay O_law_take hr (aG (pv 0) ah))) (bf gd ah (bf kF ah (ay O_law_take hr (aG (pv 0) ah)))))))
   aV)
   (ai (aF (bf gd (ay O_law_take hr (aG (pv 0) ah)) ah)))),?_⟩
  refine⟨_,rfl,b,8,rfl,hB,⟨by decide,by decide +kernel⟩,fun r H1 r0 r1 B1 X1=>⟨rfl,_,rfl,?_⟩⟩
  refine dW (fun hc=>?_) (fun hc=>?_)
  ·refine⟨10,40,rfl,rfl,⟨by decide,by decide,by decide⟩,_,_,rfl,rfl,?_⟩
   refine⟨_,rfl,b,3,rfl,B1,⟨by decide,by decide +kernel⟩,fun r2 H2 r20 r21 B2 X2=>⟨_,_,rfl,rfl,?_⟩⟩
   refine⟨_,rfl,b,2,rfl,B2,⟨by decide,by decide +kernel⟩,fun r3 H3 r30 r31 B3 X3=>?_⟩
   refine⟨_,_,rfl,rfl,.inl ⟨by decide,by decide⟩,_,_,rfl,rfl,_,_,rfl,rfl,.inr ⟨by omega,by omega⟩,?_⟩
   refine q _ H3 ?_ B3 ((X1.trans X2).trans X3)
   have e:(10:Int) ^ (40:Int).toNat=10 ^ 40:=by decide +kernel
   rw [e]
   obtain rfl | rfl:r3=0\/r3=1:=by omega
   ·rw [show (1:Int)-2*0=1 by decide,Int.mul_one];unfold lF;omega
   ·rw [show (1:Int)-2*1 = -1 by decide,Int.mul_neg,Int.mul_one];unfold lF;omega
  ·refine⟨_,rfl,b,8,rfl,B1,⟨by decide,by decide +kernel⟩,fun r2 H2 r20 r21 B2 X2=>⟨_,_,rfl,rfl,?_⟩⟩
   exact q _ H2 (by unfold lF;omega) B2 (X1.trans X2)
theorem xa {f:Addr} {fd:FuncData} (F:bS K "_law_deed" "_law_deed" mw f fd) (Z:Bl mg) (O_law_take:Own P w K mg base "_law_take" 1 ["bag", "many"] iX) (O_law_number:Own P w K mg base "_law_number" 2 ["bag"] lG):aW P w K mg base bQ 3 f fd ["bag", "names"] vo:=by
 refine F.ok (k:=2) ko (fun vs H Q E h=>?_) (fun cdv A outer s H vs Q E hr h=>?_)
 ·obtain⟨b,l,xs,rfl,_⟩:=h
  rfl
 ·obtain⟨b,l,xs,rfl,hB,hN,q⟩:=h
  refine⟨_,(ae (aY (i:=2) ko.nd (aI bG (cY (bR b0 (bR b0 (bR b0 (bR b0 (bR b0 (bR b0 (bR b0 dz)))))))) (ay O_law_take hr (aG (pv 0) ah))))
   (ae (aY (i:=3) ko.nd (aI bG (pv 1) (ay O_law_take hr (aG (pv 0) (aU aS rfl Z.len bT (aB (pv 1)))))))
   (ae (bE (aR cU (pv 2) b0 (aZ _))
   (ai (aF (bc (fq (pv 2) (pv 3) (aI bG (pv 1) (ay O_law_take hr (aG (pv 0) (aU aS rfl Z.len bT (aB (pv 1))))))))))
   aV)
   (ae (bE (PW.pt (yq (aR cU (pv 2) b0 (aZ _)) (vd (aR cU (pv 2) b0 (aZ _)))))
   (ai (aF (bc (fq (pv 2) (pv 3) (ay O_law_number hr (aB (pv 0)))))))
   aV)
   (ai (aF (bc (aG (pv 2) (pv 3))))))))),?_⟩
  refine⟨Ig,fun l0 m0=>?_⟩
  refine⟨_,rfl,b,7,rfl,hB.new m0,⟨by decide,by decide +kernel⟩,fun r H1 r0 r1 B1 X1=>?_⟩
  have h0:H1 l0=some (.lst [.str "put",.str "copy",.str "add",.str "read",.str "tell",.str "tell",.str "add"]):=X1 l0 _ aa (hB.er m0)
  have F1:Fix b H H1:=(Fix.new m0).trans X1
  have N1:=hN.fix F1
  have hw:∃w:Str,(w = "put" \/ w = "copy" \/ w = "add" \/ w = "read" \/ w = "tell")/\fG [V.str "put",.str "copy",.str "add",.str "read",.str "tell",.str "tell",.str "add"] r=some (V.str w):=by
   obtain rfl | rfl | rfl | rfl | rfl | rfl | rfl:r=0\/r=1\/r=2\/r=3\/r=4\/r=5\/r=6:=by omega
   ·exact⟨_,.inl rfl,cJ (j:=0) rfl⟩
   ·exact⟨_,.inr (.inl rfl),cJ (j:=1) rfl⟩
   ·exact⟨_,.inr (.inr (.inl rfl)),cJ (j:=2) rfl⟩
   ·exact⟨_,.inr (.inr (.inr (.inl rfl))),cJ (j:=3) rfl⟩
   ·exact⟨_,.inr (.inr (.inr (.inr rfl))),cJ (j:=4) rfl⟩
   ·exact⟨_,.inr (.inr (.inr (.inr rfl))),cJ (j:=5) rfl⟩
   ·exact⟨_,.inr (.inr (.inl rfl)),cJ (j:=6) rfl⟩
  obtain⟨w,hw,hat⟩:=hw
  refine⟨l0,_,r,_,rfl,rfl,aO.of h0,hat,?_⟩
  obtain⟨p0,p1⟩:=N1.pos
  refine⟨_,rfl,_,rfl,_,rfl,l,_,rfl,.inl (aO.of N1.at_),b,_,rfl,B1,⟨p0,ib p0 p1⟩,fun r2 H2 r20 r21 B2 X2=>?_⟩
  have N2:=N1.fix X2
  obtain⟨x,hx,hxm⟩:=pO r20 r21
  refine⟨l,_,r2,_,rfl,rfl,aO.of N2.at_,hx,?_⟩
  refine⟨_,rfl,rfl,_,rfl,?_⟩
  rcases hw with rfl | rfl | rfl | rfl | rfl
  ·
   rw [show decide (V.str "put" = V.str "copy")=false by decide +kernel]
   refine bO ⟨_,rfl,rfl,_,rfl,?_⟩
   rw [show decide (V.str "put" = V.str "put")=true by decide +kernel]
   refine bJ (bJ ⟨_,rfl,_,rfl,_,rfl,b,rfl,B2,fun n H3 nk B3 X3=>⟨xx,fun t mt=>?_⟩⟩)
   exact q _ (.put x n) _ (.tup aa (.cons (.str _) (.cons (.str _) (.cons (.int _) .nil)))) ⟨hxm,nk⟩ (B3.new mt) (((F1.trans X2).trans X3).trans (Fix.new mt))
  ·
   rw [show decide (V.str "copy" = V.str "copy")=true by decide +kernel]
   obtain⟨p0,p1⟩:=N2.pos
   refine bJ ⟨_,rfl,_,rfl,_,rfl,_,rfl,_,rfl,l,_,rfl,.inl (aO.of N2.at_),b,_,rfl,B2,⟨p0,ib p0 p1⟩,fun r3 H3 r30 r31 B3 X3=>?_⟩
   have N3:=N2.fix X3
   obtain⟨y,hy,hym⟩:=pO r30 r31
   refine⟨l,_,r3,_,rfl,rfl,aO.of N3.at_,hy,xx,fun t mt=>?_⟩
   exact q _ (.copy x y) _ (.tup aa (.cons (.str _) (.cons (.str _) (.cons (.str _) .nil)))) ⟨hxm,hym⟩ (B3.new mt) (((F1.trans X2).trans X3).trans (Fix.new mt))
  ·
   rw [show decide (V.str "add" = V.str "copy")=false by decide +kernel]
   refine bO ⟨_,rfl,rfl,_,rfl,?_⟩
   rw [show decide (V.str "add" = V.str "put")=false by decide +kernel]
   refine bO ⟨_,rfl,rfl,_,rfl,?_⟩
   rw [show decide (V.str "add" = V.str "add")=true by decide +kernel]
   refine bJ ⟨_,rfl,_,rfl,_,rfl,b,rfl,B2,fun n H3 nk B3 X3=>⟨xx,fun t mt=>?_⟩⟩
   exact q _ (.add x n) _ (.tup aa (.cons (.str _) (.cons (.str _) (.cons (.int _) .nil)))) ⟨hxm,nk⟩ (B3.new mt) (((F1.trans X2).trans X3).trans (Fix.new mt))
  ·
   rw [show decide (V.str "read" = V.str "copy")=false by decide +kernel]
   refine bO ⟨_,rfl,rfl,_,rfl,?_⟩
   rw [show decide (V.str "read" = V.str "put")=false by decide +kernel]
   refine bO ⟨_,rfl,rfl,_,rfl,?_⟩
   rw [show decide (V.str "read" = V.str "add")=false by decide +kernel]
   refine bO ⟨_,rfl,_,rfl,ln2,fun t mt=>?_⟩
   exact q _ (.read x) _ (.tup aa (.cons (.str _) (.cons (.str _) .nil))) hxm (B2.new mt) ((F1.trans X2).trans (Fix.new mt))
  ·
   rw [show decide (V.str "tell" = V.str "copy")=false by decide +kernel]
   refine bO ⟨_,rfl,rfl,_,rfl,?_⟩
   rw [show decide (V.str "tell" = V.str "put")=false by decide +kernel]
   refine bO ⟨_,rfl,rfl,_,rfl,?_⟩
   rw [show decide (V.str "tell" = V.str "add")=false by decide +kernel]
   refine bO ⟨_,rfl,_,rfl,ln2,fun t mt=>?_⟩
   exact q _ (.tell x) _ (.tup aa (.cons (.str _) (.cons (.str _) .nil))) hxm (B2.new mt) ((F1.trans X2).trans (Fix.new mt))
theorem zu {f:Addr} {fd:FuncData} (F:bS K "_law_end" "_law_end" og f fd) (Z:Bl mg) (O_law_take:Own P w K mg base "_law_take" 1 ["bag", "many"] iX) (O_law_number:Own P w K mg base "_law_number" 2 ["bag"] lG):aW P w K mg base bQ 3 f fd ["bag", "names", "count"] vp:=by
 refine F.ok (k:=2) ju (fun vs H Q E h=>?_) (fun cdv A outer s H vs Q E hr h=>?_)
 ·obtain⟨b,l,xs,c,rfl,_⟩:=h
  rfl
 ·obtain⟨b,l,xs,c,rfl,hB,hN,c0,c1,q⟩:=h
  refine⟨_,(ae (aY (i:=3) ju.nd (ay O_law_take hr (aG (pv 0) ah)))
   (ae (bE (aR cU (pv 3) ah (aZ _))
   (ai (aF (bc (aB b0))))
   aV)
   (ae (bE (aR jj (pv 3) ah (aZ _))
   (ai (aF (bc (aG b0 (ay O_law_take hr (aG (pv 0) (pv 2)))))))
   aV)
   (ae (aY (i:=4) ju.nd (aI bG (cY (aG b0 b0)) (bf xj (ay O_law_take hr (aG (pv 0) ah)) ah)))
   (ae (aY (i:=5) ju.nd (aI bG (pv 1) (ay O_law_take hr (aG (pv 0) (aU aS rfl Z.len bT (aB (pv 1)))))))
   (ai (aF (bc (bR (pv 4) (bR (pv 5) (bR (ay O_law_number hr (aB (pv 0))) (bR (ay O_law_take hr (aG (pv 0) (pv 2))) (bR (ay O_law_take hr (aG (pv 0) (pv 2))) dz))))))))))))),?_⟩
  have ck:(0:Int)<(c:Int)/\(c:Int).natAbs.log2<9000:=⟨by omega,ib (by omega) (by omega)⟩
  refine⟨_,rfl,b,9,rfl,hB,⟨by decide,by decide +kernel⟩,fun r H1 r0 r1 B1 X1=>?_⟩
  refine⟨_,rfl,rfl,_,rfl,?_⟩
  refine dW (fun hc=>?_) (fun hc=>?_)
  ·refine⟨xw,fun t mt=>?_⟩
   exact q _ .stop _ (.tup aa (.cons (.str _) .nil)) True.intro (B1.new mt) (X1.trans (Fix.new mt))
  refine⟨_,rfl,_,_,rfl,rfl,_,rfl,?_⟩
  refine dW (fun hd=>?_) (fun hd=>?_)
  ·refine⟨_,rfl,_,rfl,b,_,rfl,B1,ck,fun p H2 p0 p1 B2 X2=>⟨ln2,fun t mt=>?_⟩⟩
   obtain⟨k,rfl⟩:∃k:Nat,p=k:=⟨p.toNat,by omega⟩
   exact q _ (.go k) _ (.tup aa (.cons (.str _) (.cons (.int _) .nil))) (show k<c by omega) (B2.new mt) ((X1.trans X2).trans (Fix.new mt))
  ·refine⟨ln2,fun l0 m0=>?_⟩
   refine⟨_,rfl,b,3,rfl,B1.new m0,⟨by decide,by decide +kernel⟩,fun z H2 z0 z1 B2 X2=>⟨_,_,rfl,rfl,⟨by decide,by decide⟩,?_⟩⟩
   have h0:H2 l0=some (.lst [.str "less",.str "is"]):=X2 l0 _ aa (B1.er m0)
   have hw:∃w:Bool,fG [V.str "less",V.str "is"] (z / 2)=some (V.str (wT w)):=by
    obtain h | h:z / 2=0\/z / 2=1:=by omega
    ·rw [h];exact⟨true,eE⟩
    ·rw [h];exact⟨false,en⟩
   obtain⟨w,hat⟩:=hw
   refine⟨l0,_,_,_,rfl,rfl,aO.of h0,hat,?_⟩
   have F2:Fix b H H2:=(X1.trans (Fix.new m0)).trans X2
   have N2:=hN.fix F2
   obtain⟨p0,p1⟩:=N2.pos
   refine⟨_,rfl,_,rfl,_,rfl,l,_,rfl,.inl (aO.of N2.at_),b,_,rfl,B2,⟨p0,ib p0 p1⟩,fun r3 H3 r30 r31 B3 X3=>?_⟩
   have N3:=N2.fix X3
   obtain⟨x,hx,hxm⟩:=pO r30 r31
   refine⟨l,_,r3,_,rfl,rfl,aO.of N3.at_,hx,?_⟩
   refine⟨_,rfl,_,rfl,_,rfl,b,rfl,B3,fun n H4 nk B4 X4=>?_⟩
   refine⟨_,rfl,_,rfl,b,_,rfl,B4,ck,fun p H5 p0 p1 B5 X5=>?_⟩
   refine⟨_,rfl,_,rfl,b,_,rfl,B5,ck,fun p' H6 p0' p1' B6 X6=>⟨Ie,fun t mt=>?_⟩⟩
   obtain⟨k,rfl⟩:∃k:Nat,p=k:=⟨p.toNat,by omega⟩
   obtain⟨k',rfl⟩:∃k:Nat,p' = k:=⟨p'.toNat,by omega⟩
   exact q _ (.cC w x n k k') _ (.tup aa (.cons (.str _) (.cons (.str _) (.cons (.int _) (.cons (.int _) (.cons (.int _) .nil)))))) ⟨hxm,nk,by omega,by omega⟩ (B6.new mt) ((((F2.trans X3).trans X4).trans (X5.trans X6)).trans (Fix.new mt))
theorem xc {f:Addr} {fd:FuncData} (F:bS K "_law_plan" "_law_plan" mx f fd) (Z:Bl mg) (O_law_take:Own P w K mg base "_law_take" 1 ["bag", "many"] iX) (O_law_names:Own P w K mg base "_law_names" 2 ["bag"] xD) (O_law_deed:Own P w K mg base "_law_deed" 3 ["bag", "names"] vo) (O_law_end:Own P w K mg base "_law_end" 3 ["bag", "names", "count"] vp):aW P w K mg base bQ 4 f fd ["bag", "count", "most"] z8:=by
  refine F.ok (k:=3) fk (fun vs H Q E h=>?_) (fun cdv A outer s H vs Q E hr h=>?_)
  . obtain⟨b,c,m,rfl,_⟩:=h
    rfl
  . obtain⟨b,c,m,rfl,hB,c0,c1,hm,q⟩:=h
    refine⟨_,(ae (aY (i:=3) fk.nd (ay O_law_names hr (aB (pv 0))))
      (ae (aY (i:=4) fk.nd (cY dz))
      (ae (eG PassesOwn.never rfl (fF rfl Z.range (aB (pv 1))) (aL (i:=5) fk.nd)
      (ae (aY (i:=6) fk.nd (ay O_law_take hr (aG (pv 0) (bf du (pv 2) ah))))
      (ae (aY (i:=7) fk.nd (ay O_law_end hr (fq (pv 0) (pv 3) (pv 1))))
      (ai (dD (gy PySem.F.plainAttrs_list PySem.F.slot_list_append PySem.F.type_list_append eI (pv 4) (aB (bc (aG (bo bh rfl Z.tuple cf (aB (eO ["j"] ["bag", "names"] [0,3] rfl (fF rfl Z.range (aB (pv 6))) rfl (by decide +kernel) (by decide +kernel) (by decide +kernel) ⟨⟨rfl,.inl rfl,rfl⟩,⟨⟨rfl,.inl rfl,rfl⟩,True.intro⟩⟩ (fun _ _ _ _=>(aL (i:=0) (show ((["j"]:List Str)++(["bag", "names"]:List Str)).Nodup by decide +kernel) (hf:=Jg rfl))) (fun _ _ _ _=>d9) (fun _ _ _ _=>(ay O_law_deed hr (aG (pv 1) (pv 2))))))) (pv 7))))))))))
      (ai (aF (bo bh rfl Z.tuple cf (aB (pv 4)))))))),?_⟩
    refine⟨_,rfl,b,rfl,hB,fun l xs H1 N1 x4 B1 X1=>?_⟩
    refine⟨(by show 0<=sizeLine;decide),fun pl pn=>?_⟩
    have hpb:pl≠b:=B1.er pn
    refine⟨_,rfl,_,rfl,(by omega),(by omega),mS (lo:=0) (fun i IA H'=>∃(u1 u2 u3:Option V) (ps:List Piece) (vs:List V),IA=[some (.ref b),some (.int c),some (.int m),some (.ref l),some (.ref pl),u1,u2,u3] /\
      H' pl=some (.lst vs)/\aP H' vs (ps.map bK)/\ps.length=i/\(∀p∈ps,(p.1.length<=m/\∀d∈p.1,cB xs d)/\ft xs c p.2)/\fj H' b l xs/\cT H' b/\Fix b H H'/\(∀d o,H1 d=some o->d≠b->H' d=some o)) ?_ ?_ ?_⟩
    . exact⟨_,_,_,[],[],rfl,aa,.nil,rfl,(fun _ h=>nomatch h),N1.fix (Fix.new pn),B1.new pn,X1.trans (Fix.new pn),Fix.new pn⟩
    . rintro i IA H' hi ⟨u1,u2,u3,ps,vs,rfl,hp,hr,hl,aN,N',B',X',Y'⟩
      refine⟨_,rfl,_,rfl,_,_,rfl,rfl,b,_,rfl,B',⟨by omega,ib (by omega) (by omega)⟩,fun k H2 k0 k1 B2 X2=>?_⟩
      have N2:=N'.fix X2
      refine⟨_,rfl,_,rfl,_,rfl,b,l,xs,c,rfl,B2,N2,c0,(by omega),fun ev e H3 re ek B3 X3=>?_⟩
      have N3:=N2.fix X3
      have hp3:H3 pl=some (.lst vs):=(X2.trans X3) pl _ hp hpb
      have hr3:aP H3 vs (ps.map bK):=hr.fix B' (X2.trans X3) (bL ps)
      refine⟨_,rfl,.inl ⟨rfl,_,aO.of hp3⟩,_,rfl,_,rfl,(by omega),(by omega),fun acc na=>?_⟩
      have hab:acc≠b:=B3.er na
      refine lC (lo:=0) (fun i ys IB H'=>∃(v:Option V) (ds:List cH),IB=[v,some (.ref b),some (.ref l)]/\aP H' ys (ds.map cu)/\ds.length=i/\(∀d∈ds,cB xs d)/\H' acc=some (.lst ys)/\cT H' b/\Fix b H3 H') ?_ ?_ ?_ ?_
      . exact⟨none,[],rfl,.nil,rfl,(fun _ h=>nomatch h),aa,B3.new na,Fix.new na⟩
      . rintro i' ys IB H4 hi' ⟨v,ds,rfl,rds,hl',_,ha,_⟩
        refine⟨ha,?_⟩
        rw [rds.len,ID]
        exact bp (by omega)
      . rintro i' ys IB H4 hi' ⟨v,ds,rfl,rds,hl',hdk,ha,B4,X4⟩
        refine bu ?_
        refine i7 ?_
        refine bJ ?_
        refine⟨_,rfl,_,rfl,b,l,xs,rfl,B4,N3.fix X4,fun dv d H5 rd dk B5 X5=>?_⟩
        have ha5:=X5 acc _ ha hab
        refine⟨ha5,_,ds++[d],rfl,?_,(by rw [IJ,hl'];rfl),?_,aa,?_,?_⟩
        . rw [IT]
          refine aP.app ((rds.fix B4 X5 (aQ ds)).put ha5 (aQ ds)) ?_
          exact rd.av (fun p zs e=>by rw [ao (bU e ha5 (by intro z;cases z))];exact e) (gg d)
        . intro d' hd
          rcases IV.mp hd with hd | hd
          . exact hdk d' hd
          . rw [IH.mp hd];exact dk
        . obtain⟨x,y,e,z⟩:=B5
          exact⟨x,y,by rw [ao hab.symm];exact e,z⟩
        . intro d' o hd nd
          rw [ao (ar hd na)]
          exact (X4.trans X5) d' o hd nd
      . rintro ys IB H4 ⟨v,ds,rfl,rds,hl',hdk,ha,B4,X4⟩
        refine⟨acc,ys,rfl,.inl ⟨aO.of ha,fun tp tn=>?_⟩⟩
        refine⟨_,rfl,ln2,fun pc pcn=>?_⟩
        have S6:af H4 (upd (upd H4 tp (.tup ys)) pc (.tup [.ref tp,ev])):=(af.new tn).trans (af.new pcn)
        have hp6:(upd (upd H4 tp (.tup ys)) pc (.tup [.ref tp,ev])) pl=some (.lst vs):=S6 _ _ (X4 pl _ hp3 hpb)
        refine⟨pl,_,_,rfl,rfl,hp6,?_,?_⟩
        . rw [hr.len,ID,hl]
          exact bp (by omega)
        have hpiece:aJ (upd (upd H4 tp (.tup ys)) pc (.tup [.ref tp,ev])) (.ref pc) (bK (ds,e)):=by
          refine .tup aa (.cons (.tup (af.new pcn _ _ aa) (rds.same S6 (aQ ds))) (.cons ?_ .nil))
          exact (re.fix B3 X4 (ic e)).same S6 (ic e)
        have F6:Fix b H (upd (upd H4 tp (.tup ys)) pc (.tup [.ref tp,ev])):=((X'.trans (X2.trans X3)).trans X4).trans (Fix.of_same S6)
        have plH:∀d o,H1 d=some o->d≠b->d≠pl:=fun d o hd nd z=>by rw [z,pn] at hd;cases hd
        refine⟨_,_,_,ps++[(ds,e)],vs++[.ref pc],rfl,aa,?_,(by rw [IJ,hl];rfl),?_,?_,?_,?_,?_⟩
        . rw [IT]
          refine aP.app (((hr3.fix B3 X4 (bL ps)).same S6 (bL ps)).put hp6 (bL ps)) ?_
          exact hpiece.av (fun p zs e=>by rw [ao (bU e hp6 (by intro z;cases z))];exact e) (bZ (ds,e))
        . intro p hpm
          rcases IV.mp hpm with hpm | hpm
          . exact aN p hpm
          . rw [IH.mp hpm]
            exact⟨⟨by show ds.length<=m;omega,hdk⟩,ek⟩
        . have hll:l≠pl:=fun z=>by
            have:=N1.at_
            rw [z,pn] at this
            cases this
          have N6:=(N3.fix X4).fix (Fix.of_same (b:=b) S6)
          exact⟨by rw [ao hll];exact N6.at_,N6.ne,N6.yK,N6.b8,N6.ok⟩
        . obtain⟨x,y,e',z⟩:=B4.same S6
          exact⟨x,y,by rw [ao hpb.symm];exact e',z⟩
        . intro d o hd nd
          have h1:=X1 d o hd nd
          rw [ao (plH d o h1 nd)]
          exact F6 d o hd nd
        . intro d o hd nd
          rw [ao (plH d o hd nd)]
          exact S6 d o (X4 d o ((X2.trans X3) d o (Y' d o hd nd) nd) nd)
    . rintro IA H' ⟨u1,u2,u3,ps,vs,rfl,hp,hr,hl,aN,N',B',X',Y'⟩
      have hl':ps.length=c:=by rw [hl];omega
      refine⟨_,rfl,pl,_,rfl,.inl ⟨aO.of hp,fun tp tn=>?_⟩⟩
      refine q (.ref tp) xs ps _ (.tup aa (hr.same (af.new tn) (bL ps))) hl' ⟨fun p hpm=>(aN p hpm).1,fun p hpm=>?_⟩ ⟨N'.ok,x4⟩ (B'.new tn) (X'.trans (Fix.new tn))
      rw [hl']
      exact (aN p hpm).2
theorem qo {f:Addr} {fd:FuncData} (F:bS K "_law_all_names" "_law_all_names" ix f fd) (Z:Bl mg)  : aW P w K mg base bQ 1 f fd ["plan"] AJ:=by
 refine F.ok (k:=0) eC (fun vs H Q E h=>?_) (fun cdv A outer s H vs Q E hr h=>?_)
 ·obtain⟨plv,ps,xs,m,rfl,_⟩:=h
  rfl
 ·obtain⟨plv,ps,xs,m,rfl,hp,bW,hx64,q⟩:=h
  refine⟨_,(ae (aY (i:=1) eC.nd BN)
   (ae (eG PassesOwn.never rfl (ef (pv 0)) (cx rfl (aK (aL (i:=2) eC.nd) (aK (aL (i:=3) eC.nd) bX)))
   (ae (eG PassesOwn.never rfl (ef (pv 2)) (aL (i:=4) eC.nd)
   (ae (kN (gB hr) (pv 1) (aI bD (pv 4) ah) gx rfl)
   (ai (bE (aR cU (aI bD (pv 4) ah) b0 (aZ _))
   (ai (kN (gB hr) (pv 1) (aI bD (pv 4) ah) gx rfl))
   aV))))
   (ai (bE (aR cU (aU aS rfl Z.len bT (aB (pv 3))) ah (aZ _))
   (ai (kN (gB hr) (pv 1) (aI bD (pv 3) ah) gx rfl))
   aV))))
   (ai (aF (aU (m5 rfl) rfl Z.sorted gX (aB (pv 1))))))),?_⟩
  obtain⟨pp,vs,rfl,e1,r⟩:=aJ.bH hp
  have hl:=r.len
  refine fun nm nn=>?_
  have s0:=af.new (o:=.dK []) nn
  have kl:∀(i:Nat) (ds:List cH) (kvs:List (Key×V)) (ns:List Str),(∀x∈ns,x∈xs)->KeysAre kvs ns->kvs.length<sizeLine:=fun i ds kvs ns hn h=>by
   have:=Cu hn
   rw [h.len]
   exact bp (by omega)
  refine⟨_,rfl,pp,rfl,⟨_,aw.of (s0 _ _ e1)⟩,gU (K:=K) (a:=pp) (xs:=vs) (fun i IA H'=>∃(kvs:List (Key×V)) (u1 u2 u3:Option V),IA=[some (.ref pp),some (.ref nm),u1,u2,u3]/\H' nm=some (.dK kvs)/\KeysAre kvs (ba (ps.take i))/\af H H') ?_ ?_ ?_ ?_⟩
  ·exact⟨[],_,_,_,rfl,aa,rfl,s0⟩
  ·rintro i IA H1 hi ⟨kvs,u1,u2,u3,rfl,h1,k1,s1⟩
   exact aw.of (s1 _ _ e1)
  ·rintro i x IA H1 hi ⟨kvs,u1,u2,u3,rfl,h1,k1,s1⟩
   have hlt:i<ps.length:=by
    have:=(IY.mp hi).1
    rw [hl,ID] at this
    exact this
   have hpi:ps[i]?=some ps[i]:=by simp [hlt]
   generalize ps[i]=pe at hpi
   obtain⟨ds,e⟩:=pe
   have hnext:=j4 (f:=pNames) hpi
   have hin:∀x∈ba (ps.take (i+1)),x∈xs:=fun x hx=>by
    refine j3 bW x ?_
    obtain⟨p,hp',hx'⟩:=J4.mp hx
    exact J4.mpr ⟨p,Kw hp',hx'⟩
   have hin':∀y,y∈ba (ps.take i)\/y∈ds.flatMap cg\/y∈gh e->y∈xs:=fun y hy=>by
    refine hin y ?_
    unfold ba at hy ⊢
    rw [hnext,IV]
    unfold pNames at hy ⊢
    rcases hy with h | h
    ·exact .inl h
    ·exact .inr (IV.mpr h)
   obtain⟨p',xs',pc,da,ea,ws,ep,e1',el',hx',e2,e3,r3,e4⟩:=iE hp hpi
   cases ep
   rw [e1] at e1'
   cases e1'
   rw [hi] at hx'
   cases hx'
   refine⟨pc,_,rfl,aw.of (s1 _ _ e2),rfl,_,_,rfl,_,_,rfl,rfl,?_⟩
   refine⟨_,rfl,da,rfl,⟨_,aw.of (s1 _ _ e3)⟩,gU (K:=K) (a:=da) (xs:=ws) (fun j IA H'=>∃(kvs:List (Key×V)) (u3:Option V),IA=[some (.ref pp),some (.ref nm),some (.ref da),some (.ref ea),u3]/\H' nm=some (.dK kvs)/\KeysAre kvs (ba (ps.take i)++(ds.take j).flatMap cg)/\af H H') ?_ ?_ ?_ ?_⟩
   ·exact⟨kvs,_,rfl,h1,by simpa using k1,s1⟩
   ·rintro j IA H2 hj ⟨kvs2,u3',rfl,h2,k2,s2⟩
    exact aw.of (s2 _ _ e3)
   ·rintro j y IA H2 hj ⟨kvs2,u3',rfl,h2,k2,s2⟩
    have hjl:j<ds.length:=by
     have:=(IY.mp hj).1
     rw [r3.len,ID] at this
     exact this
    have hdj:ds[j]?=some ds[j]:=by simp [hjl]
    generalize ds[j]=dd at hdj
    obtain⟨v,hv,rd⟩:=r3.get (i:=j) (d:=cu dd) (by rw [IZ,hdj];rfl)
    rw [hj] at hv
    cases hv
    obtain⟨dp,rfl,hdp⟩:=sD rd
    have hdp2:=s2 _ _ hdp
    have ndp:dp≠nm:=bU hdp2 h2 (by intro z;cases z)
    have hnj:=j4 (f:=cg) hdj
    have hinj:∀y∈ba (ps.take i)++(ds.take j).flatMap cg,y∈xs:=fun y hy=>by
     rcases IV.mp hy with h | h
     ·exact hin' y (.inl h)
     ·obtain⟨d',hd',h'⟩:=J4.mp h
      exact hin' y (.inr (.inl (J4.mpr ⟨d',Kw hd',h'⟩)))
    have hmd:∀y∈cg dd,y∈xs:=fun y hy=>hin' y (.inr (.inl (J4.mpr ⟨dd,Ja hdj,hy⟩)))
    have e1d:∃tl,cg dd=eU dd::tl:=by cases dd <;> exact⟨_,rfl⟩
    refine bu ?_
    refine⟨_,rfl,_,rfl,dp,_,1,_,rfl,rfl,aw.of hdp2,vC dd,nm,_,rfl,lI.k (k:=Sum.inr (eU dd)) h2 (kl i ds _ _ hinj k2),?_⟩
    have k3:=k2.put (eU dd) (.bl true)
    have h3:(upd H2 nm (.dK (putK kvs2 (Sum.inr (eU dd)) (.bl true)))) nm=some (.dK (putK kvs2 (Sum.inr (eU dd)) (.bl true))):=aa
    have hdp3:(upd H2 nm (.dK (putK kvs2 (Sum.inr (eU dd)) (.bl true)))) dp=some (.tup (oA dd)):=by rw [ao ndp];exact hdp2
    have s3:af H (upd H2 nm (.dK (putK kvs2 (Sum.inr (eU dd)) (.bl true)))):=s2.put nn
    generalize (upd H2 nm (.dK (putK kvs2 (Sum.inr (eU dd)) (.bl true))))=H3 at h3 hdp3 s3
    refine⟨_,rfl,dp,_,0,_,rfl,rfl,aw.of hdp3,(by cases dd <;> exact eE:fG (oA dd) 0=some (V.str (wD dd))),rfl,_,rfl,?_⟩
    have one:cg dd=[eU dd]->KeysAre (putK kvs2 (Sum.inr (eU dd)) (.bl true)) (ba (ps.take i)++(ds.take (j+1)).flatMap cg):=fun e=>by
     rw [hnj,e,<-Jw];exact k3
    cases dd with
    | put a n=>exact bP (show decide (V.str "put" = V.str "copy")=false by decide +kernel) ⟨_,_,rfl,h3,one rfl,s3⟩
    | add a n=>exact bP (show decide (V.str "add" = V.str "copy")=false by decide +kernel) ⟨_,_,rfl,h3,one rfl,s3⟩
    | read a=>exact bP (show decide (V.str "read" = V.str "copy")=false by decide +kernel) ⟨_,_,rfl,h3,one rfl,s3⟩
    | tell a=>exact bP (show decide (V.str "tell" = V.str "copy")=false by decide +kernel) ⟨_,_,rfl,h3,one rfl,s3⟩
    | copy a c =>
     refine dn (show decide (V.str "copy" = V.str "copy")=true by decide +kernel) ?_
     have hin3:∀y∈(ba (ps.take i)++(ds.take j).flatMap cg)++[a],y∈xs:=fun y hy=>by
      rcases IV.mp hy with h | h
      ·exact hinj y h
      ·rw [IH.mp h];exact hmd a (IP ..)
     refine⟨_,rfl,_,rfl,dp,_,2,_,rfl,rfl,aw.of hdp3,at2,nm,_,rfl,lI.k (k:=Sum.inr c) h3 (kl i ds _ _ hin3 k3),?_⟩
     refine⟨_,_,rfl,aa,?_,s3.put nn⟩
     rw [hnj,show cg (.copy a c)=[a]++[c] from rfl,<-Jw,<-Jw]
     exact k3.put c (.bl true)
   ·rintro IA H2 ⟨kvs2,u3',rfl,h2,k2,s2⟩
    rw [show ws.length=ds.length by rw [r3.len,ID],Jn] at k2
    have e42:=s2 _ _ e4
    refine⟨_,rfl,ea,_,rfl,.inr (aw.of e42),rfl,_,rfl,?_⟩
    have none_:gh e=[]->KeysAre kvs2 (ba (ps.take (i+1))):=fun z=>by
     unfold ba at k2 ⊢
     rw [hnext]
     simp only [pNames,z,JP]
     exact k2
    cases e with
    | stop =>
     refine bP (show decide (V.int ((1:Nat):Int)=V.int 5)=false by decide +kernel) ?_
     exact⟨kvs2,_,_,_,rfl,h2,none_ rfl,s2⟩
    | go q1 =>
     refine bP (show decide (V.int ((2:Nat):Int)=V.int 5)=false by decide +kernel) ?_
     exact⟨kvs2,_,_,_,rfl,h2,none_ rfl,s2⟩
    | cC b x n q1 q2 =>
     refine dn (show decide (V.int ((5:Nat):Int)=V.int 5)=true by decide +kernel) ?_
     have hine:∀y∈ba (ps.take i)++ds.flatMap cg,y∈xs:=fun y hy=>by
      rcases IV.mp hy with h | h
      ·exact hin' y (.inl h)
      ·exact hin' y (.inr (.inl h))
     refine⟨_,rfl,_,rfl,ea,_,1,_,rfl,rfl,aw.of e42,en,nm,_,rfl,lI.k (k:=Sum.inr x) h2 (kl i ds _ _ hine k2),?_⟩
     refine⟨_,_,_,_,rfl,aa,?_,s2.put nn⟩
     have k3:=k2.put x (.bl true)
     unfold ba at k3 ⊢
     rw [hnext]
     simp only [pNames,gh]
     rw [<-Jw]
     exact k3
  ·rintro IA H1 ⟨kvs,u1,u2,u3,rfl,h1,k1,s1⟩
   rw [show vs.length=ps.length by rw [hl,ID],Jn] at k1
   have hf:=pV bW
   refine⟨_,rfl,nm,kvs,LS.cD (ba ps),rfl,h1,k1,(by omega),fun l ss hperm hs hn=>?_⟩
   exact q l ss _ aa hperm hs (by rw [hperm.length_eq];omega) (s1.trans (af.new hn))
theorem wG {f:Addr} {fd:FuncData} (F:bS K "_law_piece" "_law_piece" kq f fd) (Z:Bl mg) (O_law_take:Own P w K mg base "_law_take" 1 ["bag", "many"] iX) (O_law_all_names:Own P w K mg base "_law_all_names" 1 ["plan"] AJ) (O_law_deed:Own P w K mg base "_law_deed" 3 ["bag", "names"] vo) (O_law_end:Own P w K mg base "_law_end" 3 ["bag", "names", "count"] vp) (O_law_number:Own P w K mg base "_law_number" 2 ["bag"] lG):aW P w K mg base bQ 4 f fd ["bag", "plan"] uy:=by
 refine F.ok (k:=3) eD (fun vs H Q E h=>?_) (fun cdv A outer s H vs Q E hr h=>?_)
 ·obtain⟨b,plv,ps,xs,rfl,_⟩:=h
  rfl
 ·obtain⟨b,plv,ps,xs,rfl,hB,hp,bW,gm,habc,hx,h0,h60,q⟩:=h
  refine⟨_,(ae (cQ (aI bD (pv 1) (ay O_law_take hr (aG (pv 0) (aU aS rfl Z.len bT (aB (pv 1)))))) (cx rfl (aK (aL (i:=2) eD.nd) (aK (aL (i:=3) eD.nd) bX))))
   (ae (aY (i:=4) eD.nd (aU uK rfl Z.sorted gX (aB (bf Fj (ay O_law_all_names hr (aB (pv 1))) (cY (aB b0))))))
   (ae (aY (i:=5) eD.nd (ay O_law_take hr (aG (pv 0) ah)))
   (ae (bE (aR cU (pv 5) ah (aZ _))
   (ai (aF (bc (aG (bo bh rfl Z.tuple cf (aB (eO ["k"] ["bag", "names"] [0,4] rfl (fF rfl Z.range (aB (ay O_law_take hr (aG (pv 0) ah)))) rfl (by decide +kernel) (by decide +kernel) (by decide +kernel) ⟨⟨rfl,.inl rfl,rfl⟩,⟨⟨rfl,.inl rfl,rfl⟩,True.intro⟩⟩ (fun _ _ _ _=>(aL (i:=0) (show ((["k"]:List Str)++(["bag", "names"]:List Str)).Nodup by decide +kernel) (hf:=Jg rfl))) (fun _ _ _ _=>d9) (fun _ _ _ _=>(ay O_law_deed hr (aG (pv 1) (pv 2))))))) (ay O_law_end hr (fq (pv 0) (pv 4) (aU aS rfl Z.len bT (aB (pv 1)))))))))
   aV)
   (ae (bE (aR cU (pv 5) ah (aZ _))
   (ai (aF (bc (aG (pv 2) (ay O_law_end hr (fq (pv 0) (pv 4) (aU aS rfl Z.len bT (aB (pv 1)))))))))
   aV)
   (ae (bE (aR cU (pv 5) ah (aZ _))
   (ai (aF (bc (aG (bo bh rfl Z.tuple cf (aB (eO ["k"] ["bag", "names"] [0,4] rfl (fF rfl Z.range (aB (ay O_law_take hr (aG (pv 0) ah)))) rfl (by decide +kernel) (by decide +kernel) (by decide +kernel) ⟨⟨rfl,.inl rfl,rfl⟩,⟨⟨rfl,.inl rfl,rfl⟩,True.intro⟩⟩ (fun _ _ _ _=>(aL (i:=0) (show ((["k"]:List Str)++(["bag", "names"]:List Str)).Nodup by decide +kernel) (hf:=Jg rfl))) (fun _ _ _ _=>d9) (fun _ _ _ _=>(ay O_law_deed hr (aG (pv 1) (pv 2))))))) (pv 3)))))
   aV)
   (ae (bE (PW.pt (qr (aR cU (pv 5) ah (aZ _)) (om (aR cU (aU aS rfl Z.len bT (aB (pv 3))) ah (aZ _)))))
   (ai (aF (bc (aG (pv 2) (bc (bR (aI bD (pv 3) ah) (bR (aI bD (pv 3) ah) (bR (ay O_law_number hr (aB (pv 0))) (bR (aI bD (pv 3) ah) (bR (aI bD (pv 3) ah) dz))))))))))
   aV)
   (ae (aY (i:=6) eD.nd (ay O_law_take hr (aG (pv 0) (bf du (aU aS rfl Z.len bT (aB (pv 2))) ah))))
   (ae (jL (bE (aR jj (aU aS rfl Z.len bT (aB (pv 2))) ah (aZ _))
   (ai (aY (i:=2) eD.nd (bf kR (bf kR (iB yj (pv 2) jv (jw (pv 6))) (bc (aB (ay O_law_deed hr (aG (pv 0) (pv 4)))))) (iB yj (pv 2) (jw (pv 6)) jv))))
   aV))
   (ai (aF (bc (aG (pv 2) (pv 3)))))))))))))),?_⟩
  obtain⟨pp,vs,rfl,e1,rvs⟩:=aJ.bH (show aJ H plv (.tuple (ps.map bK)) from hp)
  have hvl:vs.length=ps.length:=by have:=rvs.len;rw [ID] at this;exact this
  refine⟨_,rfl,_,rfl,_,rfl,pp,_,rfl,.inr (aw.of e1),b,ps.length,(by rw [hvl];rfl),hB,⟨by omega,ib (by omega) (by omega)⟩,fun r H1 r0 r1 B1 X1=>?_⟩
  obtain⟨j,rfl⟩:∃j:Nat,r=j:=⟨r.toNat,by omega⟩
  have hjl:j<ps.length:=by omega
  have hpj:ps[j]?=some ps[j]:=by simp [hjl]
  generalize ps[j]=pc0 at hpj
  obtain⟨ds,e⟩:=pc0
  obtain⟨p',xs',pc,da,ea,wd,ep,e1',el',hxp,e2,e3,r3,e4⟩:=iE hp hpj
  cases ep
  rw [e1] at e1'
  cases e1'
  have kp1:∀p zs,H p=some (.tup zs)->H1 p=some (.tup zs):=fun p zs e=>X1 p _ e (hB.de e)
  refine⟨pp,_,_,_,rfl,rfl,aw.of (kp1 _ _ e1),cJ hxp,pc,_,rfl,aw.of (kp1 _ _ e2),rfl,_,_,rfl,_,_,rfl,rfl,?_⟩
  have hmp:=Ja hpj
  have dok:=bW.fb _ hmp
  have eok:=bW.ends _ hmp
  refine⟨_,rfl,.ref pp,ps,xs,12,rfl,hp.av kp1 (aH ps),bW,(by omega),fun l ss H2 hl hperm hsort hss s2=>⟨xw,fun l2 n2=>?_⟩⟩
  have q2:=af.new (o:=.lst [.str "abcdefgh"]) n2
  have hsl:ss.length<=xs.length:=by have h1:=hperm.length_eq;have h2:=pV bW;omega
  refine⟨l,l2,_,_,rfl,rfl,q2 _ _ hl,aa,(by rw [ID];show _+1<=sizeLine;exact Jo (bp (by omega))),fun l3 n3=>?_⟩
  have q3:=af.new (o:=.lst (ss.map V.str++[.str "abcdefgh"])) n3
  have hl3:(upd (upd H2 l2 (.lst [.str "abcdefgh"])) l3 (.lst (ss.map V.str++[.str "abcdefgh"]))) l3=some (.lst ((ss++[("abcdefgh" : Str)]).map V.str)):=by rw [aa,IT];rfl
  refine⟨l3,ss++[("abcdefgh" : Str)],rfl,aO.of hl3,(by rw [IJ];show _+1<64;omega),fun l4 ns' hp4 hs4 n4=>?_⟩
  have q4:=af.new (o:=.lst (ns'.map V.str)) n4
  have s14:=((s2.trans q2).trans q3).trans q4
  have hl4:(upd (upd (upd H2 l2 (.lst [.str "abcdefgh"])) l3 (.lst (ss.map V.str++[.str "abcdefgh"]))) l4 (.lst (ns'.map V.str))) l4=some (.lst (ns'.map V.str)):=aa
  have B4':=B1.same s14
  have nlb:l4≠b:=(((B1.same s2).same q2).same q3).er n4
  have sub:∀x∈ns',x∈xs:=fun x hx'=>by
   rcases IV.mp (hp4.mem_iff.mp hx') with z | z
   ·exact j3 bW x (LS.j2.mp (hperm.mem_iff.mp z))
   ·rw [IH.mp z];exact habc
  have N4:fj (upd (upd (upd H2 l2 (.lst [.str "abcdefgh"])) l3 (.lst (ss.map V.str++[.str "abcdefgh"]))) l4 (.lst (ns'.map V.str))) b l4 ns':=⟨hl4,nlb,(fun z=>by have:=hp4.length_eq;rw [z,IJ] at this;simp at this),(by have:=hp4.length_eq;rw [IJ] at this;simp at this;omega),fun x hx'=>gm x (sub x hx')⟩
  generalize (upd (upd (upd H2 l2 (.lst [.str "abcdefgh"])) l3 (.lst (ss.map V.str++[.str "abcdefgh"]))) l4 (.lst (ns'.map V.str)))=H5 at s14 B4' N4 ⊢
  refine bu ?_
  clear hl hl3 hl4 q2 q3 q4 s2 n2 n3 n4 hp4 hs4 hperm hsort hss
  refine⟨_,rfl,b,5,rfl,B4',⟨by decide,by decide +kernel⟩,fun way H6 w0 w1 B6 X6=>?_⟩
  refine bu ?_
  have N6:=N4.fix X6
  have kp6:∀p zs,H p=some (.tup zs)->H6 p=some (.tup zs):=fun p zs e=>X6 p _ (s14 _ _ (kp1 _ _ e)) (B4'.de (s14 _ _ (kp1 _ _ e)))
  have F6:Fix b H H6:=(X1.trans (Fix.of_same s14)).trans X6
  have e16:=kp6 _ _ e1
  have e36:=kp6 _ _ e3
  have r36:=r3.av kp6 (aQ ds)
  have e46:=kp6 _ _ e4
  have hds12:ds.length<=12:=dok.1
  clear kp1 kp6 X1 s14 X6 N4 B4' B1 e1 e2 e3 e4 r3
  refine⟨_,rfl,rfl,_,rfl,?_⟩
  refine dW (fun hc=>?_) (fun hc=>?_)
  ·
   refine⟨_,rfl,b,4,rfl,B6,⟨by decide,by decide +kernel⟩,fun m H7 m0 m1 B7 X7=>⟨_,rfl,(by omega),(by omega),fun acc na=>?_⟩⟩
   have hab:acc≠b:=B7.er na
   have N7:=N6.fix X7
   refine lC (lo:=0) (fun i ys IB H'=>∃(v:Option V) (ds:List cH),IB=[v,some (.ref b),some (.ref l4)]/\aP H' ys (ds.map cu)/\ds.length=i/\(∀d∈ds,cB ns' d)/\H' acc=some (.lst ys)/\cT H' b/\Fix b H7 H') ?_ ?_ ?_ ?_
   ·exact⟨none,[],rfl,.nil,rfl,(fun _ h=>nomatch h),aa,B7.new na,Fix.new na⟩
   ·rintro i' ys IB H4 hi' ⟨v,ds,rfl,rds,hl',_,ha,_⟩
    refine⟨ha,?_⟩
    rw [rds.len,ID]
    exact bp (by omega)
   ·rintro i' ys IB H4 hi' ⟨v,ds,rfl,rds,hl',hdk,ha,B4,X4⟩
    refine bu ?_
    refine i7 ?_
    refine bJ ?_
    refine⟨_,rfl,_,rfl,b,l4,ns',rfl,B4,N7.fix X4,fun dv d H5 rd dk B5 X5=>?_⟩
    have ha5:=X5 acc _ ha hab
    refine⟨ha5,_,ds++[d],rfl,?_,(by rw [IJ,hl'];rfl),?_,aa,?_,?_⟩
    ·rw [IT]
     refine aP.app ((rds.fix B4 X5 (aQ ds)).put ha5 (aQ ds)) ?_
     exact rd.av (fun p zs e=>by rw [ao (bU e ha5 (by intro z;cases z))];exact e) (gg d)
    ·intro d' hd
     rcases IV.mp hd with hd | hd
     ·exact hdk d' hd
     ·rw [IH.mp hd];exact dk
    ·obtain⟨x,y,e,z⟩:=B5
     exact⟨x,y,by rw [ao hab.symm];exact e,z⟩
    ·intro d' o hd nd
     rw [ao (ar hd na)]
     exact (X4.trans X5) d' o hd nd
   rintro ys IB H4 ⟨v,ds2,rfl,rds2,hl',hdk,ha,B4,X4⟩
   refine⟨acc,ys,rfl,.inl ⟨aO.of ha,fun tp tn=>?_⟩⟩
   have s8:=af.new (o:=.tup ys) tn
   have htp:(upd H4 tp (.tup ys)) tp=some (.tup ys):=aa
   have F64:Fix b H6 H4:=X7.trans X4
   have B8:=B4.same s8
   have N8:=((N7.fix X4).fix (Fix.of_same (b:=b) s8))
   have rds8:=rds2.same s8 (aQ ds2)
   have F68:Fix b H6 (upd H4 tp (.tup ys)):=F64.trans (Fix.of_same s8)
   generalize (upd H4 tp (.tup ys))=H8 at s8 htp B8 N8 rds8 F68 ⊢
   have hdl:ds2.length<=12:=by omega
   have hdx:∀d∈ds2,cB xs d:=fun d hd=>(hdk d hd).mono sub
   refine⟨_,rfl,_,rfl,_,rfl,pp,_,rfl,.inr (aw.of (F68 _ _ e16 (B6.de e16))),b,l4,ns',ps.length,(by rw [hvl];rfl),B8,N8,h0,(by omega),fun ev e' H9 re ek B9 X9=>⟨ln2,fun t nt=>?_⟩⟩
   have q9:=af.new (o:=.tup [.ref tp,ev]) nt
   refine q (.ref t) (ds2,e') _ (.tup aa (.cons (.tup (q9 _ _ (X9 _ _ htp (B8.de htp))) ((rds8.fix B8 X9 (aQ ds2)).same q9 (aQ ds2))) (.cons (re.same q9 (ic e')) .nil))) ⟨hdl,hdx⟩ (ek.mono sub) (B9.same q9) (((F6.trans F68).trans X9).trans (Fix.of_same q9))
  refine⟨_,rfl,rfl,_,rfl,?_⟩
  refine dW (fun hc=>?_) (fun hc=>?_)
  ·
   refine⟨_,rfl,_,rfl,_,rfl,_,rfl,pp,_,rfl,.inr (aw.of e16),b,l4,ns',ps.length,(by rw [hvl];rfl),B6,N6,h0,(by omega),fun ev e' H9 re ek B9 X9=>⟨ln2,fun t nt=>?_⟩⟩
   have q9:=af.new (o:=.tup [.ref da,ev]) nt
   refine q (.ref t) (ds,e') _ (.tup aa (.cons (.tup (q9 _ _ (X9 _ _ e36 (B6.de e36))) ((r36.fix B6 X9 (aQ ds)).same q9 (aQ ds))) (.cons (re.same q9 (ic e')) .nil))) dok (ek.mono sub) (B9.same q9) ((F6.trans X9).trans (Fix.of_same q9))
  refine⟨_,rfl,rfl,_,rfl,?_⟩
  refine dW (fun hc=>?_) (fun hc=>?_)
  ·
   refine⟨_,rfl,b,4,rfl,B6,⟨by decide,by decide +kernel⟩,fun m H7 m0 m1 B7 X7=>⟨_,rfl,(by omega),(by omega),fun acc na=>?_⟩⟩
   have hab:acc≠b:=B7.er na
   have N7:=N6.fix X7
   refine lC (lo:=0) (fun i ys IB H'=>∃(v:Option V) (ds:List cH),IB=[v,some (.ref b),some (.ref l4)]/\aP H' ys (ds.map cu)/\ds.length=i/\(∀d∈ds,cB ns' d)/\H' acc=some (.lst ys)/\cT H' b/\Fix b H7 H') ?_ ?_ ?_ ?_
   ·exact⟨none,[],rfl,.nil,rfl,(fun _ h=>nomatch h),aa,B7.new na,Fix.new na⟩
   ·rintro i' ys IB H4 hi' ⟨v,ds,rfl,rds,hl',_,ha,_⟩
    refine⟨ha,?_⟩
    rw [rds.len,ID]
    exact bp (by omega)
   ·rintro i' ys IB H4 hi' ⟨v,ds,rfl,rds,hl',hdk,ha,B4,X4⟩
    refine bu ?_
    refine i7 ?_
    refine bJ ?_
    refine⟨_,rfl,_,rfl,b,l4,ns',rfl,B4,N7.fix X4,fun dv d H5 rd dk B5 X5=>?_⟩
    have ha5:=X5 acc _ ha hab
    refine⟨ha5,_,ds++[d],rfl,?_,(by rw [IJ,hl'];rfl),?_,aa,?_,?_⟩
    ·rw [IT]
     refine aP.app ((rds.fix B4 X5 (aQ ds)).put ha5 (aQ ds)) ?_
     exact rd.av (fun p zs e=>by rw [ao (bU e ha5 (by intro z;cases z))];exact e) (gg d)
    ·intro d' hd
     rcases IV.mp hd with hd | hd
     ·exact hdk d' hd
     ·rw [IH.mp hd];exact dk
    ·obtain⟨x,y,e,z⟩:=B5
     exact⟨x,y,by rw [ao hab.symm];exact e,z⟩
    ·intro d' o hd nd
     rw [ao (ar hd na)]
     exact (X4.trans X5) d' o hd nd
   rintro ys IB H4 ⟨v,ds2,rfl,rds2,hl',hdk,ha,B4,X4⟩
   refine⟨acc,ys,rfl,.inl ⟨aO.of ha,fun tp tn=>?_⟩⟩
   have s8:=af.new (o:=.tup ys) tn
   have htp:(upd H4 tp (.tup ys)) tp=some (.tup ys):=aa
   have F64:Fix b H6 H4:=X7.trans X4
   have B8:=B4.same s8
   have N8:=((N7.fix X4).fix (Fix.of_same (b:=b) s8))
   have rds8:=rds2.same s8 (aQ ds2)
   have F68:Fix b H6 (upd H4 tp (.tup ys)):=F64.trans (Fix.of_same s8)
   generalize (upd H4 tp (.tup ys))=H8 at s8 htp B8 N8 rds8 F68 ⊢
   have hdl:ds2.length<=12:=by omega
   have hdx:∀d∈ds2,cB xs d:=fun d hd=>(hdk d hd).mono sub
   refine⟨_,rfl,ln2,fun t nt=>?_⟩
   have q9:=af.new (o:=.tup [.ref tp,.ref ea]) nt
   have e48:=F68 _ _ e46 (B6.de e46)
   refine q (.ref t) (ds2,e) _ (.tup aa (.cons (.tup (q9 _ _ htp) (rds8.same q9 (aQ ds2))) (.cons (nu (q9 _ _ e48)) .nil))) ⟨hdl,hdx⟩ eok (B8.same q9) ((F6.trans F68).trans (Fix.of_same q9))
  refine⟨_,rfl,rfl,_,rfl,?_⟩
  refine FP ?_ (fun rest hc=>?_)
  rotate_left
  ·refine⟨_,rfl,ea,_,rfl,.inr (aw.of e46),rfl,_,rfl,?_⟩
   refine dW (fun hd=>?_) (fun hd=>rest)
   cases e with
   | stop=>exact absurd (of_decide_eq_true hd) (by show ¬V.int 1=V.int 5;decide)
   | go p=>exact absurd (of_decide_eq_true hd) (by show ¬V.int 2=V.int 5;decide)
   | cC bb x n r1 r2 =>
    refine⟨_,rfl,_,rfl,ea,_,0,_,rfl,rfl,aw.of e46,eE,_,rfl,ea,_,1,_,rfl,rfl,aw.of e46,en,_,rfl,b,rfl,B6,fun n' H7 nk B7 X7=>?_⟩
    have e47:=X7 _ _ e46 (B6.de e46)
    refine⟨_,rfl,ea,_,3,_,rfl,rfl,aw.of e47,cJ (j:=3) rfl,_,rfl,ea,_,4,_,rfl,rfl,aw.of e47,cJ (j:=4) rfl,(by show 5<=sizeLine;decide),fun t1 n1=>⟨ln2,fun t nt=>?_⟩⟩
    have q8:=af.new (o:=.tup (fo (.cC bb x n' r1 r2))) n1
    have q9:=af.new (o:=.tup [.ref da,.ref t1]) nt
    have q89:=q8.trans q9
    refine q (.ref t) (ds,.cC bb x n' r1 r2) _ (.tup aa (.cons (.tup (q89 _ _ (X7 _ _ e36 (B6.de e36))) ((r36.fix B6 X7 (aQ ds)).same q89 (aQ ds))) (.cons (nu (q9 _ _ aa)) .nil))) dok ⟨eok.1,nk,eok.2.2⟩ (B7.same q89) ((F6.trans X7).trans (Fix.of_same q89))
  have hwl:wd.length=ds.length:=by have:=r36.len;rw [ID] at this;exact this
  refine⟨_,rfl,_,rfl,da,_,rfl,.inr (aw.of e36),_,_,rfl,rfl,b,ds.length+1,(by rw [hwl];rfl),B6,⟨by omega,ib (by omega) (by omega)⟩,fun at_ H7 a0 a1 B7 X7=>?_⟩
  refine bu ?_
  obtain⟨k,rfl⟩:∃k:Nat,at_=k:=⟨at_.toNat,by omega⟩
  have e37:=X7 _ _ e36 (B6.de e36)
  have r37:=r36.fix B6 X7 (aQ ds)
  have e47:=X7 _ _ e46 (B6.de e46)
  have N7:=N6.fix X7
  have F7:=F6.trans X7
  refine⟨fun σ' H'=>∃(da':Addr) (wd':List V) (ds':List cH),σ' = [some (.ref b),some (.ref pp),some (.ref da'),some (.ref ea),some (.ref l4),some (.int way),some (.int (k:Nat))]/\H' da' = some (.tup wd')/\aP H' wd' (ds'.map cu)/\(ds'.length<=12/\∀d∈ds',cB xs d)/\H' ea=some (.tup (fo e))/\cT H' b/\Fix b H H',?_,?_⟩
  ·refine⟨_,rfl,da,_,rfl,.inr (aw.of e37),_,_,rfl,rfl,_,rfl,?_⟩
   refine dW (fun hd=>?_) (fun hd=>?_)
   ·have hd12:ds.length<12:=by
     have hd:decide (((wd.length:Nat):Int)<12)=true:=hd
     have:=of_decide_eq_true hd
     omega
    have hk':k<=wd.length:=by omega
    refine⟨_,rfl,_,rfl,(k:Int),rfl,da,wd,rfl,e37,fun p1 H8 hp1 s8=>?_⟩
    have B8:=B7.same s8
    have N8:=N7.fix (Fix.of_same (b:=b) s8)
    refine⟨_,rfl,_,rfl,b,l4,ns',rfl,B8,N8,fun dv d H9 rd dk B9 X9=>⟨xw,fun t1 n1=>?_⟩⟩
    have q1:=af.new (o:=.tup [dv]) n1
    have F79:Fix b H7 H9:=(Fix.of_same s8).trans X9
    have r39:=r37.fix B7 F79 (aQ ds)
    obtain⟨c1,c2⟩:=Ez r39 hk'
    have hl1:(eW wd none (some (k:Int))).length<=12:=by rw [wc hk',Jm];omega
    have hl2:(eW wd (some (k:Int)) none).length<=12:=by rw [sV hk',Kc];omega
    refine⟨p1,t1,_,_,rfl,rfl,q1 _ _ (X9 _ _ hp1 (B8.de hp1)),aa,IQ (show _<=13 by show _+1<=13;omega) (by decide),fun t2 H10 ht2 s10=>?_⟩
    have q10:=q1.trans s10
    have e310:=q10 _ _ (F79 _ _ e37 (B7.de e37))
    refine⟨_,rfl,_,rfl,(k:Int),rfl,da,wd,rfl,e310,fun p3 H11 hp3 s11=>?_⟩
    refine⟨t2,p3,_,_,rfl,rfl,s11 _ _ ht2,hp3,IQ (show _<=25 by rw [IJ];show _+1+_<=25;omega) (by decide),fun t4 H12 ht4 s12=>?_⟩
    have qf:=(q10.trans s11).trans s12
    refine⟨t4,_,ds.take k++[d]++ds.drop k,rfl,ht4,?_,⟨?_,fun d' hd'=>?_⟩,qf _ _ (F79 _ _ e47 (B7.de e47)),B9.same qf,(F7.trans F79).trans (Fix.of_same qf)⟩
    ·rw [IT,IT]
     exact aP.FT (c2.same qf (aQ _)) (aP.app (c1.same qf (aQ _)) (rd.same qf (gg d)))
    ·rw [IJ,IJ,Jm,Kc]
     show _+1+_<=12
     omega
    ·rcases IV.mp hd' with hd' | hd'
     ·rcases IV.mp hd' with hd' | hd'
      ·exact dok.2 d' (Kw hd')
      ·rw [IH.mp hd'];exact dk.mono sub
     ·exact dok.2 d' (List.mem_of_mem_drop hd')
   ·exact⟨da,wd,ds,rfl,e37,r37,dok,e47,B7,F7⟩
  rintro σ' H8 ⟨da',wd',ds',rfl,g1,g2,g3,g4,B8,F8⟩
  refine⟨_,rfl,_,rfl,ln2,fun t nt=>?_⟩
  have q9:=af.new (o:=.tup [.ref da',.ref ea]) nt
  exact q (.ref t) (ds',e) _ (.tup aa (.cons (.tup (q9 _ _ g1) (g2.same q9 (aQ ds'))) (.cons (nu (q9 _ _ g4)) .nil))) g3 eok (B8.same q9) (F8.trans (Fix.of_same q9))
theorem wH {f:Addr} {fd:FuncData} (F:bS K "_law_tells" "_law_tells" ku f fd) (Z:Bl mg) {D:Addr} (TK:gC K D) (O_Keeper_plan:iF P w K mg base D "plan" 1 ["self"] (gr D 0)) (O_Keeper_other:iF P w K mg base D "other" 1 ["self"] (gr D 1)) (O_Keeper_paper:iF P w K mg base D "paper" 1 ["self"] (gr D 2)) (O_Keeper_made:iF P w K mg base D "made" 1 ["self"] (gr D 3)):aW P w K mg base bQ 2 f fd ["keeper"] (ym D):=by
 refine F.ok (k:=1) wy (fun vs H Q E h=>?_) (fun cdv A outer s H vs Q E hr h=>?_)
 ·obtain⟨kp,m,S,rfl,_⟩:=h
  rfl
 ·obtain⟨kp,m,S,rfl,K,q⟩:=h
  refine⟨_,(ai (aF (bc (wa (gK O_Keeper_plan (pv 0) (hr.mono (by decide))) (gK O_Keeper_other (pv 0) (hr.mono (by decide))) (gK O_Keeper_paper (pv 0) (hr.mono (by decide))) (gK O_Keeper_made (pv 0) (hr.mono (by decide))))))),?_⟩
  obtain⟨plv2',ov2',cv2',ds,KA18,x1,x2,x3,f5⟩:=K
  obtain⟨dx8,hh18⟩:=id KA18
  refine⟨_,rfl,kp,dx8,_,rfl,hh18,rfl,kp,plv2',ov2',cv2',m,S.n,rfl,KA18,_,rfl,kp,dx8,_,rfl,hh18,rfl,kp,plv2',ov2',cv2',m,S.n,rfl,KA18,_,rfl,kp,dx8,_,rfl,hh18,rfl,kp,plv2',ov2',cv2',m,S.n,rfl,KA18,_,rfl,kp,dx8,_,rfl,hh18,rfl,kp,plv2',ov2',cv2',m,S.n,rfl,KA18,?_⟩
  refine⟨(by show 4<=sizeLine;decide),fun t4 n4=>?_⟩
  have q19:=af.new (o:=.tup [plv2',ov2',cv2',.int S.n]) n4
  exact q t4 ds _ f5 (.tup aa (.cons (x1.same q19 (aH _)) (.cons (x2.same q19 (aH _)) (.cons (x3.same q19 (fU f5)) (.cons (.int _) .nil))))) q19
theorem sf {f:Addr} {fd:FuncData} (F:bS K "_law_too_many" "_law_too_many" iQ f fd) (Z:Bl mg) {cP cM cN cR cL cO:Addr} (GX:zh K mg cP cM cN cR cL cO) {D:Addr} (TK:gC K D) (OX_Keeper___init__:rP P w K mg base D "Keeper" 12 ["self", "plan", "most"] (Dn (jy D) (pF D cM))):aW P w K mg base bQ 14 f fd ["plan", "most"] uD:=by
 refine F.ok (k:=13) fE (fun vs H Q E h=>?_) (fun cdv A outer s H vs Q E hr h=>?_)
 ·obtain⟨p,xs,m,rfl,_⟩:=h
  rfl
 ·obtain⟨p,xs,m,rfl,hp,h6,h10,q⟩:=h
  refine⟨_,(ae (aY (i:=2) fE.nd (cY dz))
   (ae (Ga (i:=3) fE.nd GX.tP GX.yP GX.gP (fun _ _ E hE=>(ai (dD (EH OX_Keeper___init__ hE hr (aG (pv 0) (pv 1))))))
   (fun e=>(ae (aY (i:=2) fE.nd (cY (aG (aU qc rfl Z.isinstance i6 (aG (pv 3) (dC (v:=.ref cM) rfl GX.gM rfl))) (aU qc rfl Z.isinstance i6 (aG (pv 3) (bc (wa (dC (v:=.ref cN) rfl GX.gN rfl) (dC (v:=.ref cO) rfl GX.gO rfl) (dC (v:=.ref cR) rfl GX.gR rfl) (dC (v:=.ref cL) rfl GX.gL rfl))))))))
   (ai (dD (gy PySem.F.plainAttrs_list PySem.F.slot_list_append PySem.F.type_list_append eI (pv 2) (aB (aU qc rfl Z.isinstance i6 (aG (pv 3) (Dx (v:=.ty "ValueError") rfl Z.ValueError uM rfl))))))))))
   (ai (aF (iA (z7 hr.units) (pv 2) (cY (fq gx gx gx)) (aZ _)))))),?_⟩
  refine⟨(by decide),fun l nl=>?_⟩
  refine bu ?_
  have q1:=af.new (o:=.lst []) nl
  have hp1:=q1 _ _ hp
  refine⟨fun cls od H'=>cls=.ref cM/\af H H',fun pn xe=>?_,?_⟩
  ·refine⟨_,rfl,_,rfl,fun kp dx nx ndx nex=>.inr ⟨kp,dx,p,xs,m,rfl,aa,?_,h6,h10,fun H' b=>⟨rfl,?_⟩⟩⟩
   ·rw [ao (ar hp1 nx),ao (ar hp1 ndx)];exact hp1
   ·intro c o e
    have e1:=q1 _ _ e
    have n1:c≠kp:=ar e1 nx
    refine b c o ?_ n1
    rw [ao n1,ao (ar e1 ndx)]
    exact e1
  rintro cls od H2 ⟨rfl,s2⟩
  refine⟨cM,rfl,GX.sM,fun e ne=>?_⟩
  have he:(upd H2 e (jb e cM)) e=some (jb e cM):=aa
  have s3:=s2.trans (af.new (o:=jb e cM) ne)
  generalize (upd H2 e (jb e cM))=H3 at he s3 ⊢
  refine⟨_,rfl,.own e cM cM true rfl he GX.tM CK ?_⟩
  refine⟨_,rfl,(by show 4<=sizeLine;decide),fun tp ntp=>?_⟩
  have q4:=af.new (o:=.tup [.ref cN,.ref cO,.ref cR,.ref cL]) ntp
  refine .tup e cM tp [cN,cO,cR,cL] false rfl (q4 _ _ he) GX.tM aa GX.mM ?_
  refine⟨(by show 2<=sizeLine;decide),fun l2 n2=>?_⟩
  refine bu ?_
  have q5:=af.new (o:=.lst [.bl true,.bl false]) n2
  have he5:=q5 _ _ (q4 _ _ he)
  have s5:=(s3.trans q4).trans q5
  have hl5:(upd (upd H3 tp (.tup [.ref cN,.ref cO,.ref cR,.ref cL])) l2 (.lst [.bl true,.bl false])) l2=some (.lst [.bl true,.bl false]):=aa
  have nl2:H l2=none:=(s3.trans q4).free n2
  generalize (upd (upd H3 tp (.tup [.ref cN,.ref cO,.ref cR,.ref cL])) l2 (.lst [.bl true,.bl false]))=H5 at he5 s5 hl5 ⊢
  refine⟨_,rfl,.inl ⟨rfl,_,aO.of hl5⟩,_,rfl,.bi e cM "ValueError" true rfl he5 GX.tM GX.kM ?_⟩
  refine⟨l2,_,_,rfl,rfl,hl5,(by show 2<sizeLine;decide),?_⟩
  have hl6:(upd H5 l2 (.lst ([.bl true,.bl false]++[.bl true]))) l2=some (.lst [.bl true,.bl false,.bl true]):=aa
  have s6:af H (upd H5 l2 (.lst ([.bl true,.bl false]++[.bl true]))):=fun c o e=>by rw [ao (ar e nl2)];exact s5 _ _ e
  generalize (upd H5 l2 (.lst ([.bl true,.bl false]++[.bl true])))=H6 at hl6 s6 ⊢
  dsimp only [sY]
  refine⟨_,rfl,(by show 3<=sizeLine;decide),fun l7 n7=>?_⟩
  have q7:=af.new (o:=.lst [.bl true,.bl false,.bl true]) n7
  refine⟨.list [.bool true,.bool false,.bool true],.list [.bool true,.bool false,.bool true],.lst (q7 _ _ hl6) (.cons (.bl _) (.cons (.bl _) (.cons (.bl _) .nil))),.lst aa (.cons (.bl _) (.cons (.bl _) (.cons (.bl _) .nil))),rfl,rfl,(by decide),?_⟩
  exact q _ (s6.trans q7)
theorem Gd {f:Addr} {fd:FuncData} (F:bS K "law" "law" oM f fd) (Z:Bl mg) {D:Addr} (TK:gC K D) (O_law_bag:Own P w K mg base "_law_bag" 1 ["script", "k"] (C4 K)) (O_law_take:Own P w K mg base "_law_take" 1 ["bag", "many"] iX) (O_law_plan:Own P w K mg base "_law_plan" 4 ["bag", "count", "most"] z8) (O_Keeper___init__:vz P w K mg base D "Keeper" 12 ["self", "plan", "most"] (jy D)) (O_Keeper_exchange:iF P w K mg base D "exchange" 13 ["self", "place", "piece"] (yh D)) (O_Keeper_plan:iF P w K mg base D "plan" 1 ["self"] (gr D 0)) (O_Keeper_made:iF P w K mg base D "made" 1 ["self"] (gr D 3)) (O_law_piece:Own P w K mg base "_law_piece" 4 ["bag", "plan"] uy) (O_law_tells:Own P w K mg base "_law_tells" 2 ["keeper"] (ym D)) (O_law_too_many:Own P w K mg base "_law_too_many" 14 ["plan", "most"] uD):aW P w K mg base bQ 17 f fd ["script"] (uX K):=by
  refine F.ok (k:=16) dB (fun vs H Q E h=>?_) (fun cdv A outer s H vs Q E hr h=>?_)
  . obtain⟨a,ns,rfl,_⟩:=h
    rfl
  . obtain⟨a,ns,rfl,hS,hlen,q⟩:=h
    refine⟨_,(ae (aY (i:=1) dB.nd (ay O_law_bag hr (aG (pv 0) ah)))
      (ae (aY (i:=2) dB.nd (ay O_law_plan hr (fq (pv 1) (bf du ah (ay O_law_take hr (aG (pv 1) ah))) ah)))
      (ae (aY (i:=3) dB.nd (cY (aG (pv 2) (aI bG (cY (aG (pv 2) (ay O_law_plan hr (fq (pv 1) (bf du ah (ay O_law_take hr (aG (pv 1) ah))) ah)))) (ay O_law_take hr (aG (pv 1) ah))))))
      (ae (aY (i:=4) dB.nd (bf du ah (ay O_law_take hr (aG (pv 1) ah))))
      (ae (aY (i:=5) dB.nd (cY (fq (kP O_Keeper___init__ (hr.mono (by decide)) rfl (aG (aI bG (pv 3) ah) (pv 4))) (kP O_Keeper___init__ (hr.mono (by decide)) rfl (aG (aI bG (pv 3) ah) (bf du ah (ay O_law_take hr (aG (pv 1) ah))))) (kP O_Keeper___init__ (hr.mono (by decide)) rfl (aG (pv 2) (pv 4))))))
      (ae (aY (i:=6) dB.nd (cY dz))
      (ae (aY (i:=7) dB.nd (cY (aG ah ah)))
      (ae (eG PassesOwn.never rfl (fF rfl Z.range (aB (aU (tN rfl) rfl Z.min zU (aG (aU aS rfl Z.len bT (aB (pv 0))) ah)))) (aL (i:=8) dB.nd)
      (ae (aY (i:=9) dB.nd (ay O_law_bag hr (aG (pv 0) (pv 8))))
      (ae (aY (i:=10) dB.nd (ay O_law_take hr (aG (pv 9) ah)))
      (ae (aY (i:=11) dB.nd (ay O_law_take hr (aG (pv 9) (aU aS rfl Z.len bT (aB (aI bG (pv 3) (pv 10)))))))
      (ae (aY (i:=12) dB.nd (ay O_law_piece hr (aG (pv 9) (gK O_Keeper_plan (aI bG (pv 5) (pv 10)) (hr.mono (by decide))))))
      (ae (aY (i:=13) dB.nd (ay O_law_tells hr (aB (aI bG (pv 5) (bf gd ah (pv 10))))))
      (ae (jL (aY (i:=14) dB.nd (kO O_Keeper_exchange (aI bG (pv 5) (pv 10)) (hr.mono (by decide)) (aG (pv 11) (pv 12)))))
      (ae (cQ (bf du (aI bG (pv 7) (pv 10)) (bo zI rfl Z.int Fn (aB (jC (gc (pv 14)))))) (kC (pv 7) (pv 10) set_list))
      (ae (bE (PW.pt (yq (aR (vm hr.units) (ay O_law_tells hr (aB (aI bG (pv 5) (bf gd ah (pv 10))))) (pv 13) (aZ _)) (vd (aR Gp (gK O_Keeper_made (aI bG (pv 5) (pv 10)) (hr.mono (by decide))) (aI bG (pv 7) (pv 10)) (aZ _)))))
      (ai (aF gx))
      aV)
      (ae (bE (aR (vm hr.units) (ay O_law_tells hr (aB (aI bG (pv 5) (pv 10)))) (ay O_law_tells hr (aB (aI bG (pv 5) (pv 10)))) (aZ _))
      (ai (aF gx))
      aV)
      (ai (bE (aR cU (pv 10) ah (aZ _))
      (ai (dD (gy PySem.F.plainAttrs_list PySem.F.slot_list_append PySem.F.type_list_append eI (pv 6) (aB (bc (fq (pv 11) (pv 12) (pv 14)))))))
      aV))))))))))))
      (ae (eG PassesOwn.never rfl (ow (pv 6)) (cx rfl (aK (aL (i:=11) dB.nd) (aK (aL (i:=12) dB.nd) (aK (aL (i:=14) dB.nd) bX))))
      (ai (jL (bE (aR (vm hr.units) (kO O_Keeper_exchange (aI bG (pv 5) ah) (hr.mono (by decide)) (aG (pv 11) (pv 12))) (pv 14) (aZ _))
      (ai (aF gx))
      aV))))
      (ae (bE (zB (mP (ay O_law_too_many hr (aG (ay O_law_plan hr (fq (pv 1) (bf du ah (ay O_law_take hr (aG (pv 1) ah))) ah)) (pv 4)))))
      (ai (aF gx))
      aV)
      (ai (aF (iA (z7 hr.units) (ay O_law_tells hr (aB (aI bG (pv 5) ah))) (ay O_law_tells hr (aB (aI bG (pv 5) ah))) (aZ _)))))))))))))),?_⟩
    refine⟨_,rfl,a,ns,0,rfl,hS,(by decide),fun b H1 nb B1 s1=>?_⟩
    refine bu ?_
    refine⟨_,rfl,_,rfl,b,10,rfl,B1,⟨by decide,by decide +kernel⟩,fun z1 H2 z10 z11 B2 X2=>⟨_,_,rfl,rfl,?_⟩⟩
    obtain⟨c1,rfl⟩:∃c:Nat,z1=c:=⟨z1.toNat,by omega⟩
    refine⟨b,1+c1,3,rfl,B2,(by omega),(by omega),(by decide),fun plv xs0 ps0 H3 r3 l3 pok0 xok0 B3 X3=>?_⟩
    refine bu ?_
    refine⟨_,rfl,_,rfl,_,rfl,_,rfl,b,10,rfl,B3,⟨by decide,by decide +kernel⟩,fun z2 H4 z20 z21 B4 X4=>⟨_,_,rfl,rfl,?_⟩⟩
    obtain⟨c2,rfl⟩:∃c:Nat,z2=c:=⟨z2.toNat,by omega⟩
    refine⟨b,1+c2,3,rfl,B4,(by omega),(by omega),(by decide),fun plw xs1 ps1 H5 r5 l5 pok1 xok1 B5 X5=>⟨ln2,fun li ni=>⟨_,rfl,b,2,rfl,B5.new ni,⟨by decide,by decide +kernel⟩,fun y H6 y0 y1 B6 X6=>?_⟩⟩⟩
    have hli:=X6 li _ aa (B5.er ni)
    have s16:Fix b H1 H6:=((X2.trans X3).trans (X4.trans X5)).trans ((Fix.new ni).trans X6)
    have t36:∀p zs,H3 p=some (.tup zs)->H6 p=some (.tup zs):=fun p zs e=>(X4.trans X5).trans ((Fix.new ni).trans X6) p _ e (B3.de e)
    have t56:∀p zs,H5 p=some (.tup zs)->H6 p=some (.tup zs):=fun p zs e=>((Fix.new ni).trans X6) p _ e (B5.de e)
    have r3':=r3.av t36 (aH _)
    obtain⟨plv1,X1,ps1',cn,hat,r6,l6,pok6,xok6,hc0,hc10⟩:∃(v:V) (xs:List Str) (ps:List Piece) (c:Nat),fG [plv,plw] y=some v/\aJ H6 v (bM ps)/\ps.length=c/\bY xs 3 ps/\((∀x∈xs,dP x)/\xs.length<=4)/\0<c/\c<=10:=by
      obtain rfl | rfl:y=0\/y=1:=by omega
      . exact⟨plv,xs0,ps0,_,eE,r3',l3,pok0,xok0,by omega,by omega⟩
      . exact⟨plw,xs1,ps1,_,en,r5.av t56 (aH _),l5,pok1,xok1,by omega,by omega⟩
    refine⟨li,_,_,_,rfl,rfl,aO.of hli,hat,ln2,fun lp np=>?_⟩
    refine bu ?_
    have B7:=B6.new (o:=.lst [plv,plv1]) np
    have nlb:=B6.er np
    have sH6:af H H6:=af.kJ s1 nb s16
    have q7:=af.new (o:=.lst [plv,plv1]) np
    have r7:=r3'.same q7 (aH _)
    have r7':=r6.same q7 (aH _)
    have hlp7:(upd H6 lp (.lst [plv,plv1])) lp=some (.lst [plv,plv1]):=aa
    have sH7:=sH6.trans q7
    clear hat hli s16 t36 t56 X6 X5 X4 X3 X2 r3' r6 ni q7 sH6 B6 np
    generalize (upd H6 lp (.lst [plv,plv1]))=H7 at B7 r7 r7' hlp7 sH7 ⊢
    refine⟨_,rfl,b,60,rfl,B7,⟨by decide,by decide +kernel⟩,fun z3 H8 z30 z31 B8 X8=>⟨_,_,rfl,rfl,?_⟩⟩
    refine bu ?_
    obtain⟨m0',rfl⟩:∃c:Nat,z3=c:=⟨z3.toNat,by omega⟩
    have t8:∀p zs,H7 p=some (.tup zs)->H8 p=some (.tup zs):=fun p zs e=>X8 p _ e (B7.de e)
    have r8:=r7.av t8 (aH _)
    have r8':=r7'.av t8 (aH _)
    have hlp8:=X8 _ _ hlp7 nlb
    have sH8:af H H8:=af.kJ sH7 nb X8
    have ok0:=yn (m:=1+m0') pok0 xok0 l3 (by omega) (by omega) (by omega) (by omega)
    clear t8 r7 r7' X8 hlp7 B7 sH7
    generalize hX0:xs0++[("abcdefgh" : Str)]=X0 at ok0
    have ha0:("abcdefgh" : Str)∈X0:=by rw [<-hX0];exact Jl _ (IH.mpr rfl)
    clear hX0
    refine⟨_,rfl,lp,_,_,_,rfl,rfl,aO.of hlp8,eE,_,rfl,fun kp0 dx0 nx0 ndx0 nex0=>?_⟩
    refine⟨kp0,dx0,plv,ps0,X0,1+m0',rfl,aa,(r8.same (fun c o e=>by rw [ao (ar e nx0),ao (ar e ndx0)];exact e) (aH _)),ok0,fun ov cv ds H9 cc ro rc A b9=>⟨rfl,?_⟩⟩
    obtain⟨K0,s9⟩:=zi nx0 ndx0 r8 cc ro rc A b9
    have nH0:=sH8.free nx0
    clear cc ro rc A b9
    refine⟨_,rfl,lp,_,_,_,rfl,rfl,aO.of (s9 _ _ hlp8),en,_,rfl,b,300,rfl,B8.sm s9,⟨by decide,by decide +kernel⟩,fun z4 H10 z40 z41 B10 X10=>⟨_,_,rfl,rfl,?_⟩⟩
    obtain⟨m1',rfl⟩:∃c:Nat,z4=c:=⟨z4.toNat,by omega⟩
    have B9:=B8.sm s9
    have K0:=K0.fix B9 X10
    have t10:∀p zs,H8 p=some (.tup zs)->H10 p=some (.tup zs):=fun p zs e=>X10 p _ (s9 _ _ e) (B9.de (s9 _ _ e))
    have r10:=r8.av t10 (aH _)
    have r10':=r8'.av t10 (aH _)
    have hlp10:=X10 _ _ (s9 _ _ hlp8) nlb
    have sH10:af H H10:=af.kJ (sH8.trans s9) nb X10
    have ok1:=yn (m:=1+m1') pok6 xok6 l6 (by omega) (by omega) (by omega) (by omega)
    clear t10 r8 r8' X10 hlp8 B8 B9 sH8 s9
    generalize hX1:X1++[("abcdefgh" : Str)]=X1' at ok1
    have ha1:("abcdefgh" : Str)∈X1':=by rw [<-hX1];exact Jl _ (IH.mpr rfl)
    clear hX1
    intro kp1 dx1 nx1 ndx1 nex1
    refine⟨kp1,dx1,plv1,ps1',X1',1+m1',rfl,aa,(r10'.same (fun c o e=>by rw [ao (ar e nx1),ao (ar e ndx1)];exact e) (aH _)),ok1,fun ov cv ds H11 cc ro rc A b11=>⟨rfl,?_⟩⟩
    have nH1:=sH10.free nx1
    obtain⟨K1,s11⟩:=zi nx1 ndx1 r10' cc ro rc A b11
    have n01:kp0≠kp1:=by obtain⟨dx,fs,e⟩:=K0.ins;exact ar e nx1
    have K0:=K0.same s11
    clear cc ro rc A b11
    refine⟨_,rfl,_,rfl,?_⟩
    intro kp2 dx2 nx2 ndx2 nex2
    have r11:=r10.same s11 (aH _)
    have r11':=r10'.same s11 (aH _)
    refine⟨kp2,dx2,plv,ps0,X0,1+m0',rfl,aa,(r11.same (fun c o e=>by rw [ao (ar e nx2),ao (ar e ndx2)];exact e) (aH _)),ok0,fun ov cv ds H12 cc ro rc A b12=>⟨rfl,?_⟩⟩
    have nH2:=(sH10.trans s11).free nx2
    obtain⟨K2,s12⟩:=zi nx2 ndx2 r11 cc ro rc A b12
    have n02:kp0≠kp2:=by obtain⟨dx,fs,e⟩:=K0.ins;exact ar e nx2
    have n12:kp1≠kp2:=by obtain⟨dx,fs,e⟩:=K1.ins;exact ar e nx2
    clear cc ro rc A b12
    refine⟨xx,fun lk nlk=>?_⟩
    refine bu ?_
    have q13:=af.new (o:=.lst [.ref kp0,.ref kp1,.ref kp2]) nlk
    refine⟨(by show 0<=sizeLine;decide),fun lc nlc=>?_⟩
    refine bu ?_
    have q14:=af.new (o:=.lst []) nlc
    refine⟨ln2,fun lm nlm=>?_⟩
    refine bu ?_
    have q15:=af.new (o:=.lst [.int 1,.int 1]) nlm
    have q1115:=(s12.trans q13).trans (q14.trans q15)
    have q1015:=s11.trans q1115
    have K0:=K0.same q1115
    have K1:=K1.same q1115
    have K2:=K2.same ((q13.trans q14).trans q15)
    have hlk:=q15 _ _ (q14 _ _ (show (upd H12 lk (.lst [.ref kp0,.ref kp1,.ref kp2])) lk=some (.lst [.ref kp0,.ref kp1,.ref kp2]) from aa))
    have hlc:=q15 _ _ (show (upd (upd H12 lk (.lst [.ref kp0,.ref kp1,.ref kp2])) lc (.lst [])) lc=some (.lst []) from aa)
    have hlm:(upd (upd (upd H12 lk (.lst [.ref kp0,.ref kp1,.ref kp2])) lc (.lst [])) lm (.lst [.int 1,.int 1])) lm=some (.lst [.int 1,.int 1]):=aa
    have hlp:=q1015 _ _ hlp10
    have r15:=r10.same q1015 (aH _)
    have r15':=r10'.same q1015 (aH _)
    have B15:=B10.sm q1015
    have sH15:=sH10.trans q1015
    have d1:lc≠lm:=ar (q14 _ _ (show (upd H12 lk (.lst [.ref kp0,.ref kp1,.ref kp2])) lk=_ from aa) |> fun _=>(show (upd (upd H12 lk (.lst [.ref kp0,.ref kp1,.ref kp2])) lc (.lst [])) lc=some (.lst []) from aa)) nlm
    have d2:lk≠lc:=ar (show (upd H12 lk (.lst [.ref kp0,.ref kp1,.ref kp2])) lk=_ from aa) nlc
    have d3:lk≠lm:=ar (q14 _ _ (show (upd H12 lk (.lst [.ref kp0,.ref kp1,.ref kp2])) lk=_ from aa)) nlm
    have e12:=s11.trans s12
    have d4:lp≠lc:=ar (q13 _ _ (e12 _ _ hlp10)) nlc
    have d5:lp≠lm:=ar (q14 _ _ (q13 _ _ (e12 _ _ hlp10))) nlm
    have B14:=B10.sm ((e12.trans q13).trans q14)
    have d6:lc≠b:=(B10.sm (e12.trans q13)).er nlc
    have d7:lm≠b:=B14.er nlm
    have nHlc:H lc=none:=(sH10.trans (e12.trans q13)).free nlc
    have nHlm:H lm=none:=(sH10.trans ((e12.trans q13).trans q14)).free nlm
    have kok0:=iI.first ok0
    have kok1:=iI.first ok1
    clear q1115 q1015 q13 q14 q15 s11 s12 e12 r10 r10' r11 r11' hlp10 B10 B14 sH10 nlk nlc nlm nx0 nx1 nx2 ndx0 ndx1 ndx2
    generalize (upd (upd (upd H12 lk (.lst [.ref kp0,.ref kp1,.ref kp2])) lc (.lst [])) lm (.lst [.int 1,.int 1]))=H15 at K0 K1 K2 hlk hlc hlm hlp r15 r15' B15 sH15 ⊢
    generalize hT0:(⟨ps0,(cy ps0 (1+m0')).2,(cy ps0 (1+m0')).1,1⟩:Ks)=T0 at K0 K2 kok0
    generalize hT1:(⟨ps1',(cy ps1' (1+m1')).2,(cy ps1' (1+m1')).1,1⟩:Ks)=T1 at K1 kok1
    have e0:T0.n=1:=by rw [<-hT0]
    have e1:T1.n=1:=by rw [<-hT1]
    have f0:T0.ps.length=ps0.length:=by rw [<-hT0]
    have f1:T1.ps.length=ps1'.length:=by rw [<-hT1]
    clear hT0 hT1
    refine⟨_,rfl,a,_,rfl,.inl (sH15.seq hS),_,_,rfl,_,rfl,(by split <;> (try rw [ID]) <;> omega),(by split <;> (try rw [ID]) <;> omega),?_⟩
    have kokT:=kok0
    have fT:=f0
    refine mS (lo:=0) (fun i IA H'=>∃(u1 u2 u3 u4 u5 u6 u7:Option V) (S0 S1:Ks) (cs:List KCall) (cvs:List V),IA=[some (.ref a),some (.ref b),some plv,some (.ref lp),some (.int (1+(m0':Nat))),some (.ref lk),some (.ref lc),some (.ref lm),u1,u2,u3,u4,u5,u6,u7]/\cT H' b/\H' lp=some (.lst [plv,plv1])/\aJ H' plv (bM ps0)/\aJ H' plv1 (bM ps1')/\H' lk=some (.lst [.ref kp0,.ref kp1,.ref kp2])/\H' lc=some (.lst cvs)/\aP H' cvs (cs.map rQ)/\H' lm=some (.lst [.int S0.n,.int S1.n])/\d8 D H' kp0 (1+m0') S0/\d8 D H' kp1 (1+m1') S1/\d8 D H' kp2 (1+m0') T0/\iI X0 (1+m0') S0/\iI X1' (1+m1') S1/\S0.ps.length=ps0.length/\S1.ps.length=ps1'.length/\eS (1+m0') T0 cs S0/\(∀c∈cs,c.k<ps0.length/\Gb X0 ps0.length c.p)/\bB (cs.map rQ)=true/\cs.length<=i/\af H H') ?_ ?_ ?_
    . exact⟨_,_,_,_,_,_,_,T0,T1,[],[],rfl,B15,hlp,r15,r15',hlk,hlc,.nil,by rw [e0,e1];exact hlm,K0,K1,K2,kok0,kok1,f0,f1,rfl,fun _ z=>(by cases z),rfl,IF _,sH15⟩
    . rintro i IA H16 hi ⟨u1,u2,u3,u4,u5,u6,u7,S0,S1,cs,cvs,rfl,B16,hlp,r16,r16',hlk,hlc,rcv,hlm,K0,K1,K2,kok0,kok1,f0,f1,run,hcs,nol,hci,sH16⟩
      rw [Int.zero_add]
      refine bu ?_
      refine⟨_,rfl,_,rfl,a,ns,i,rfl,sH16.seq hS,(by split at hi <;> omega),fun b3 H17 nb3 B17 s17=>?_⟩
      refine bu ?_
      refine⟨_,rfl,b3,2,rfl,B17,⟨by decide,by decide +kernel⟩,fun z H18 z0 z1 B18 X18=>?_⟩
      refine bu ?_
      obtain⟨j,rfl⟩:∃c:Nat,z=c:=⟨z.toNat,by omega⟩
      have q18:af H16 H18:=af.kJ s17 nb3 X18
      obtain⟨kpA,kpB,mA,mB,XA,XB,SA,SB,plA,psA,hkA,hkB,hplA,rpA,hmA,KA,KB,okA,okB,fA,nAB,nA2,nHA,haA,h01⟩:∃(kpA kpB:Addr) (mA mB:Nat) (XA XB:List Str) (SA SB:Ks) (plA:V) (psA:List Piece),fG [V.ref kp0,.ref kp1,.ref kp2] (j:Int)=some (.ref kpA)/\fG [V.ref kp0,.ref kp1,.ref kp2] (1-(j:Int))=some (.ref kpB)/\fG [plv,plv1] (j:Int)=some plA/\aJ H16 plA (bM psA)/\fG [V.int S0.n,.int S1.n] (j:Int)=some (.int SA.n)/\d8 D H16 kpA mA SA/\d8 D H16 kpB mB SB/\iI XA mA SA/\iI XB mB SB/\SA.ps.length=psA.length/\kpA≠kpB/\kpA≠kp2/\H kpA=none/\("abcdefgh" : Str)∈XA/\((j=0/\kpA=kp0/\kpB=kp1/\mA=1+m0'/\mB=1+m1'/\XA=X0/\XB=X1'/\SA=S0/\SB=S1/\psA=ps0)\/(j=1/\kpA=kp1/\kpB=kp0/\mA=1+m1'/\mB=1+m0'/\XA=X1'/\XB=X0/\SA=S1/\SB=S0/\psA=ps1')):=by
        obtain rfl | rfl:j=0\/j=1:=by omega
        . exact⟨kp0,kp1,_,_,X0,X1',S0,S1,plv,ps0,eE,en,eE,r16,eE,K0,K1,kok0,kok1,f0,n01,n02,nH0,ha0,.inl ⟨rfl,rfl,rfl,rfl,rfl,rfl,rfl,rfl,rfl,rfl⟩⟩
        . exact⟨kp1,kp0,_,_,X1',X0,S1,S0,plv1,ps1',en,eE,en,r16',en,K1,K0,kok1,kok0,f1,n01.symm,n12,nH1,ha1,.inr ⟨rfl,rfl,rfl,rfl,rfl,rfl,rfl,rfl,rfl,rfl⟩⟩
      obtain⟨pA,vsA,rfl,eA,rvA⟩:=aJ.bH (show aJ H16 plA (.tuple (psA.map bK)) from rpA)
      have hvl:vsA.length=psA.length:=by have:=rvA.len;rw [ID] at this;exact this
      have hA60:=okA.ok.pD
      have hA0:=okA.ok.n0
      refine⟨_,rfl,_,rfl,_,rfl,lp,_,_,_,rfl,rfl,aO.of (q18 _ _ hlp),hplA,pA,_,rfl,.inr (aw.of (q18 _ _ eA)),b3,psA.length,(by rw [hvl];rfl),B18,⟨by omega,ib (by omega) (by omega)⟩,fun pl H19 pl0 pl1 B19 X19=>?_⟩
      refine bu ?_
      obtain⟨k,rfl⟩:∃k:Nat,pl=k:=⟨pl.toNat,by omega⟩
      have q19:af H16 H19:=af.kJ q18 nb3 X19
      obtain⟨plvA,ovA,cvA,dsA,KtA,x1,x2,x3,x4⟩:=KA.same q19
      obtain⟨dxA,hhA⟩:=id KtA
      refine⟨_,rfl,_,rfl,_,rfl,lk,_,_,_,rfl,rfl,aO.of (q19 _ _ hlk),hkA,kpA,dxA,_,rfl,hhA,rfl,kpA,plvA,ovA,cvA,mA,SA.n,rfl,KtA,?_⟩
      refine⟨b3,plvA,SA.ps,XA,rfl,B19,x1,okA.ok.bW,okA.ok.gm,haA,okA.ok.b8,okA.ok.n0,okA.ok.pD,fun qv p H20 rq pd pe B20 X20=>?_⟩
      refine bu ?_
      have q20:af H16 H20:=af.kJ q19 nb3 X20
      clear x1 x2 x3 x4 KtA hhA
      refine⟨_,rfl,_,rfl,_,_,rfl,rfl,lk,_,_,_,rfl,rfl,aO.of (q20 _ _ hlk),hkB,kpB,mB,SB,rfl,KB.same q20,fun tB dsB H21 ccB rB s21=>?_⟩
      refine bu ?_
      have q21:=q20.trans s21
      have okk:=okA.ok.set (k:=k) pd pe
      have rq21:=rq.same s21 (bZ _)
      refine⟨fun σ' H'=>∃(dv:V) (dd:PyData) (SA':Ks),σ' = [some (.ref a),some (.ref b),some plv,some (.ref lp),some (.int (1+(m0':Nat))),some (.ref lk),some (.ref lc),some (.ref lm),some (.int (i:Nat)),some (.ref b3),some (.int (j:Nat)),some (.int (k:Nat)),some qv,some (.ref tB),some dv]/\eV mA SA ⟨k,p,dd⟩ SA'/\aJ H' dv dd/\((dv=.bg/\SA'.n=SA.n+1)\/((∃t,dv=.ref t)/\SA'.n=SA.n))/\d8 D H' kpA mA SA'/\cm kpA H21 H',?_,?_⟩
      . obtain⟨plvA,ovA,cvA,dsA,KtA,x1,x2,x3,x4⟩:=KA.same q21
        obtain⟨dxA,hhA⟩:=id KtA
        refine⟨_,rfl,_,rfl,lk,_,_,_,rfl,rfl,aO.of (q21 _ _ hlk),hkA,kpA,dxA,_,rfl,hhA,rfl,_,rfl,_,rfl,kpA,plvA,ovA,cvA,qv,mA,k,SA.n,SA.ps,SA.qs,p,SA.cs,dsA,XA,rfl,KtA,x1,x2,x3,x4,rq21,(by omega),okk,okA.tok,okA.cq,okA.q4,fun os hos=>⟨fun hn plv' ov' cv' ds' H' rp cc' ro rc A' b'=>?_,fun es hes plv' ov' t H' ht rp ro A' b'=>?_⟩⟩
        . exact⟨.bg,.none,⟨SA.ps.set k p,_,_,SA.n+1⟩,rfl,⟨os,hos,.anew hn rfl rfl rfl rfl,rfl⟩,.bg,.inl ⟨rfl,rfl⟩,⟨plv',ov',cv',ds',A',rp,ro,rc,cc'⟩,b'⟩
        . exact⟨.ref t,.tuple ((eR SA.cs k).map lR),⟨SA.ps.set k p,_,SA.cs,SA.n⟩,rfl,⟨os,hos,.nR es hes rfl rfl rfl rfl,rfl⟩,.tup ht (sS _),.inr ⟨⟨t,rfl⟩,rfl⟩,⟨plv',ov',cvA,dsA,A',rp,ro,x3.av (b'.av hhA) (fU x4),x4⟩,b'⟩
      rintro σ' H22 ⟨dv,dd,SA',rfl,st,rdv,hdv,KA',b22⟩
      have KA21:=KA.same q21
      have KB21:=KB.same q21
      have k2:∀c o,H16 c=some o->c≠kpA->H22 c=some o:=fun c o e n=>b22 c o (q21 c o e) n
      have nIns:∀{c:Addr} {zs:List V},H16 c=some (.lst zs)->c≠kpA:=fun {c zs} e z=>by obtain⟨dx,fs,e'⟩:=KA.ins;rw [z,e'] at e;cases e
      have hlm22:=k2 _ _ hlm (nIns hlm)
      refine⟨_,rfl,_,rfl,lm,_,_,_,rfl,rfl,aO.of hlm22,hmA,_,rfl,.inr ⟨_,rfl,_,_,rfl,rfl,?_⟩⟩
      have eN:SA.n+(if decide (dv=V.bg)=true then 1 else 0)=SA'.n:=by
        rcases hdv with ⟨rfl,e⟩ | ⟨⟨t,rfl⟩,e⟩
        . rw [e];rfl
        . rw [e];exact Int.add_zero _
      obtain⟨S0',S1',hset,hixn,hmA',h02⟩:∃S0' S1':Ks,[V.int S0.n,.int S1.n].set j (.int SA'.n)=[.int S0'.n,.int S1'.n]/\mC [V.int S0.n,.int S1.n].length (j:Int)=some j/\fG [V.int S0'.n,.int S1'.n] (j:Int)=some (.int SA'.n)/\((j=0/\S0' = SA'/\S1' = S1)\/(j=1/\S0' = S0/\S1' = SA')):=by
        obtain rfl | rfl:j=0\/j=1:=by omega
        . exact⟨SA',S1,rfl,rfl,eE,.inl ⟨rfl,rfl,rfl⟩⟩
        . exact⟨S0,SA',rfl,rfl,en,.inr ⟨rfl,rfl,rfl⟩⟩
      refine⟨_,rfl,_,rfl,lm,_,(j:Int),j,rfl,rfl,hlm22,hixn,?_⟩
      rw [eN,hset]
      have hlm23:(upd H22 lm (.lst [.int S0'.n,.int S1'.n])) lm=some (.lst [.int S0'.n,.int S1'.n]):=aa
      have k3:∀c o,H22 c=some o->c≠lm->(upd H22 lm (.lst [.int S0'.n,.int S1'.n])) c=some o:=fun c o e n=>by rw [ao n];exact e
      have nL:∀{c:Addr} {dx:Addr} {fs:List (Str×V)},H22 c=some (.ins D dx fs)->c≠lm:=fun {c dx fs} e z=>by rw [z,hlm22] at e;cases e
      have t3:∀c zs,H22 c=some (.tup zs)->(upd H22 lm (.lst [.int S0'.n,.int S1'.n])) c=some (.tup zs):=fun c zs e=>k3 _ _ e fun z=>by rw [z,hlm22] at e;cases e
      have KB22:=KB21.but KA21 b22 nAB.symm
      have KA23:d8 D (upd H22 lm (.lst [.int S0'.n,.int S1'.n])) kpA mA SA':=KA'.keep t3 fun o e=>k3 _ _ e (by obtain⟨dx,fs,e'⟩:=KA'.ins;exact nL e')
      have KB23:d8 D (upd H22 lm (.lst [.int S0'.n,.int S1'.n])) kpB mB SB:=KB22.keep t3 fun o e=>k3 _ _ e (by obtain⟨dx,fs,e'⟩:=KB22.ins;exact nL e')
      have rdv23:=rdv.av t3 st.told.2.2
      have t23:∀c zs,H21 c=some (.tup zs)->(upd H22 lm (.lst [.int S0'.n,.int S1'.n])) c=some (.tup zs):=fun c zs e=>t3 _ _ (b22 _ _ e (by obtain⟨dx,fs,e'⟩:=KA21.ins;intro z;rw [z,e'] at e;cases e))
      have rB23:=rB.av t23 (j8 ccB)
      have rq23:=rq21.av t23 (bZ _)
      have k23:∀c o,H16 c=some o->c≠kpA->c≠lm->(upd H22 lm (.lst [.int S0'.n,.int S1'.n])) c=some o:=fun c o e n n'=>k3 _ _ (k2 c o e n) n'
      generalize (upd H22 lm (.lst [.int S0'.n,.int S1'.n]))=H23 at hlm23 KA23 KB23 rdv23 rB23 rq23 t23 k23 ⊢
      clear k3 t3 KB22 KB21 KA21
      have hlk23:=k23 _ _ hlk (nIns hlk) d3
      refine⟨_,rfl,_,rfl,_,_,rfl,rfl,lk,_,_,_,rfl,rfl,aO.of hlk23,hkB,kpB,mB,SB,rfl,KB23,fun t1 ds1 H24 cc1 r1 s24=>?_⟩
      obtain rfl:=sR ccB cc1
      obtain⟨layB,depB⟩:=okB.four ccB
      refine⟨_,rfl,_,_,r1,rB23.same s24 (j8 ccB),layB,layB,(by omega),_,rfl,?_⟩
      refine bP (by rw [PySem.SeqAt.eqv_refl _ layB];rfl) ?_
      have KA24:=KA23.same s24
      obtain⟨plvA,ovA,cvA,dsA,KtA,x1,x2,x3,x4⟩:=id KA24
      obtain⟨dxA,hhA⟩:=id KtA
      refine⟨_,rfl,_,rfl,lk,_,_,_,rfl,rfl,aO.of (s24 _ _ hlk23),hkA,kpA,dxA,_,rfl,hhA,rfl,kpA,plvA,ovA,cvA,mA,SA'.n,rfl,KtA,_,rfl,_,rfl,lm,_,_,_,rfl,rfl,aO.of (s24 _ _ hlm23),hmA',rfl,_,rfl,?_⟩
      refine bP (by simp) ?_
      clear x1 x2 x3 x4 KtA hhA
      have okA':=st.ok okA (by show k<_;omega) okk
      refine⟨_,rfl,_,rfl,lk,_,_,_,rfl,rfl,aO.of (s24 _ _ hlk23),hkA,kpA,mA,SA',rfl,KA24,fun t2 ds2 H25 cc2 r2 s25=>?_⟩
      refine⟨_,rfl,_,rfl,lk,_,_,_,rfl,rfl,aO.of (s25 _ _ (s24 _ _ hlk23)),hkA,kpA,mA,SA',rfl,KA24.same s25,fun t3 ds3 H26 cc3 r3 s26=>?_⟩
      obtain rfl:=sR cc2 cc3
      obtain⟨layA,depA⟩:=okA'.four cc2
      refine⟨_,_,r2.same s26 (j8 cc2),r3,layA,layA,(by omega),_,rfl,?_⟩
      refine bP (by rw [PySem.SeqAt.eqv_refl _ layA];rfl) ?_
      have s2326:=(s24.trans s25).trans s26
      have k26:∀c o,H16 c=some o->c≠kpA->c≠lm->H26 c=some o:=fun c o e n n'=>s2326 _ _ (k23 c o e n n')
      have t26:∀c zs,H16 c=some (.tup zs)->H26 c=some (.tup zs):=fun c zs e=>s2326 _ _ (t23 _ _ (q21 _ _ e))
      have KA26:=KA23.same s2326
      have KB26:=KB23.same s2326
      have nlm16:∀{c:Addr} {o:HO},H16 c=some o->(∀zs,o≠.lst zs)->c≠lm:=fun {c o} e n z=>by rw [z,hlm] at e;exact n _ (IU.inj e).symm
      have K2':d8 D H26 kp2 (1+m0') T0:=K2.keep t26 fun o e=>k26 _ _ e nA2.symm (by
        obtain⟨dx,fs,e'⟩:=K2.ins
        exact nlm16 e' (fun zs z=>by cases z))
      obtain⟨xb,yb,hb16,rb16⟩:=id B16
      have B26:cT H26 b:=⟨xb,yb,k26 _ _ hb16 (nIns hb16) d7.symm,rb16⟩
      have sH26:af H H26:=fun c o e=>k26 _ _ (sH16 _ _ e) (ar e nHA) (ar e nHlm)
      have hlp26:=k26 _ _ hlp (nIns hlp) d5
      have hlk26:=k26 _ _ hlk (nIns hlk) d3
      have hlc26:=k26 _ _ hlc (nIns hlc) d1
      have hlm26:=s2326 _ _ hlm23
      have r26:=r16.av t26 (aH _)
      have r26':=r16'.av t26 (aH _)
      have rcv26:=rcv.av t26 nol
      have rdv26:=rdv23.same s2326 st.told.2.2
      have rq26:=rq23.same s2326 (bZ _)
      refine⟨_,rfl,rfl,_,rfl,?_⟩
      have hcv:cvs.length<=1000:=by have:=rcv.len;rw [ID] at this;rw [this];split at hi <;> omega
      have eps:=st.len
      rcases h01 with ⟨rfl,rfl,rfl,rfl,rfl,rfl,rfl,rfl,rfl,rfl⟩ | ⟨rfl,rfl,rfl,rfl,rfl,rfl,rfl,rfl,rfl,rfl⟩
      . have h03:S0' = SA'/\S1' = SB:=by
          rcases h02 with ⟨_,e1,e2⟩ | ⟨z,_⟩
          . exact⟨e1,e2⟩
          . cases z
        obtain⟨rfl,rfl⟩:=h03
        refine dn (by decide) ?_
        refine⟨_,rfl,.inl ⟨rfl,_,aO.of hlc26⟩,_,rfl,_,rfl,_,rfl,xx,fun tc ntc=>?_⟩
        have q27:=af.new (o:=.tup [.int (k:Nat),qv,dv]) ntc
        refine⟨lc,_,_,rfl,rfl,q27 _ _ hlc26,qM (by omega),?_⟩
        have hc28:(upd (upd H26 tc (.tup [.int (k:Nat),qv,dv])) lc (.lst (cvs++[.ref tc]))) lc=some (.lst (cvs++[.ref tc])):=aa
        have k28:∀c o,H26 c=some o->c≠lc->(upd (upd H26 tc (.tup [.int (k:Nat),qv,dv])) lc (.lst (cvs++[.ref tc]))) c=some o:=fun c o e n=>by rw [ao n];exact q27 _ _ e
        have ht28:(upd (upd H26 tc (.tup [.int (k:Nat),qv,dv])) lc (.lst (cvs++[.ref tc]))) tc=some (.tup [.int (k:Nat),qv,dv]):=by
          rw [ao (Ne.symm (ar hlc26 ntc))];exact aa
        generalize (upd (upd H26 tc (.tup [.int (k:Nat),qv,dv])) lc (.lst (cvs++[.ref tc])))=H28 at hc28 k28 ht28 ⊢
        have t28:∀c zs,H26 c=some (.tup zs)->H28 c=some (.tup zs):=fun c zs e=>k28 _ _ e fun z=>by rw [z,hlc26] at e;cases e
        have nI:∀{c dx:Addr} {fs:List (Str×V)},H26 c=some (.ins D dx fs)->c≠lc:=fun {c dx fs} e z=>by rw [z,hlc26] at e;cases e
        have up:∀{kp:Addr} {m:Nat} {S:Ks},d8 D H26 kp m S->d8 D H28 kp m S:=fun {kp m S} h=>h.keep t28 fun o e=>k28 _ _ e (by obtain⟨dx,fs,e'⟩:=h.ins;exact nI e')
        obtain⟨xb,yb,hb26,rb26⟩:=B26
        refine⟨_,_,_,_,_,_,_,_,_,cs++[⟨k,p,dd⟩],cvs++[.ref tc],rfl,⟨xb,yb,k28 _ _ hb26 d6.symm,rb26⟩,k28 _ _ hlp26 d4,r26.av t28 (aH _),r26'.av t28 (aH _),k28 _ _ hlk26 d2,hc28,?_,k28 _ _ hlm26 d1.symm,up KA26,up KB26,up K2',okA',okB,by rw [eps,f0],f1,run.snoc st,?_,?_,?_,fun c o e=>k28 _ _ (sH26 _ _ e) (ar e nHlc)⟩
        . rw [IT]
          exact (rcv26.av t28 nol).app (.tup ht28 (.cons (.int _) (.cons (rq26.av t28 (bZ _)) (.cons (rdv26.av t28 st.told.2.2) .nil))))
        . intro c hc
          rcases IV.mp hc with hc | hc
          . exact hcs c hc
          . rw [IH.mp hc]
            exact⟨by show k<_;omega,pd,by rw [<-fA];exact pe⟩
        . rw [IT,yo,nol]
          show (true&&(bA (.tuple [.int (k:Nat),bK p,dd])&&true))=true
          show (true&&((true&&(bA (bK p)&&(bA dd&&true)))&&true))=true
          rw [bZ,st.told.2.2]
          rfl
        . rw [IJ];show _+1<=_;omega
      . have h03:S0' = SB/\S1' = SA':=by
          rcases h02 with ⟨z,_⟩ | ⟨_,e1,e2⟩
          . cases z
          . exact⟨e1,e2⟩
        obtain⟨rfl,rfl⟩:=h03
        refine bP (by decide) ?_
        exact⟨_,_,_,_,_,_,_,_,_,cs,cvs,rfl,B26,hlp26,r26,r26',hlk26,hlc26,rcv26,hlm26,KB26,KA26,K2',okB,okA',f0,by rw [eps,f1],run,hcs,nol,by omega,sH26⟩
    rintro IA H30 ⟨u1,u2,u3,u4,u5,u6,u7,S0,S1,cs,cvs,rfl,B30,hlp,r30,r30',hlk,hlc,rcv,hlm,K0,K1,K2,kok0,kok1,f0,f1,run,hcs,nol,hci,sH30⟩
    have hcl:cvs.length=cs.length:=by have:=rcv.len;rw [ID] at this;exact this
    refine⟨_,rfl,lc,rfl,⟨_,aO.of hlc⟩,Bn (K:=K) (a:=lc) (xs:=cvs) (fun i IA H'=>∃(v1 v2 v3 v4 v5 v6 v7:Option V) (T:Ks),IA=[some (.ref a),some (.ref b),some plv,some (.ref lp),some (.int (1+(m0':Nat))),some (.ref lk),some (.ref lc),some (.ref lm),v1,v2,v3,v4,v5,v6,v7]/\cT H' b/\H' lk=some (.lst [.ref kp0,.ref kp1,.ref kp2])/\H' lc=some (.lst cvs)/\aP H' cvs (cs.map rQ)/\d8 D H' kp0 (1+m0') S0/\d8 D H' kp2 (1+m0') T/\iI X0 (1+m0') T/\T.ps.length=ps0.length/\eS (1+m0') T0 (cs.take i) T/\af H H') ?_ ?_ ?_ ?_⟩
    . exact⟨_,_,_,_,_,_,_,T0,rfl,B30,hlk,hlc,rcv,K0,K2,kokT,fT,rfl,sH30⟩
    . rintro i IA H' _ ⟨v1,v2,v3,v4,v5,v6,v7,T,rfl,g1,g2,g3,g4⟩
      exact aO.of g3
    . rintro i x IA H31 hx ⟨v1,v2,v3,v4,v5,v6,v7,T,rfl,B31,hlk31,hlc31,rcv31,K31,K32,okT,lT,nJ,sH31⟩
      have hi:i<cs.length:=by rw [<-hcl];exact (IY.mp hx).1
      obtain⟨c,hc⟩:∃c,cs[i]?=some c:=⟨cs[i],KW hi⟩
      obtain⟨x',hx',rx⟩:=rcv31.get (i:=i) (d:=rQ c) (by rw [IZ,hc];rfl)
      rw [hx] at hx'
      cases hx'
      obtain⟨tt,tvs,rfl,ht,rt⟩:=aJ.bH (show aJ H31 x (.tuple [.int (c.k:Nat),bK c.p,c.dd]) from rx)
      obtain⟨w1,t1,rfl,rk,rt⟩:=rt.cons_inv
      obtain⟨qv,t2,rfl,rq,rt⟩:=rt.cons_inv
      obtain⟨dv,t3,rfl,rdv,rt⟩:=rt.cons_inv
      have z':=rt.nil_inv
      subst z'
      have z':=rk.int_inv
      subst z'
      refine⟨tt,_,rfl,aw.of ht,rfl,_,_,rfl,_,_,rfl,_,_,rfl,rfl,?_⟩
      obtain⟨U,st,runU⟩:=run.next nJ hc
      obtain⟨hck,hcp⟩:=hcs c (Ja hc)
      have okk:=okT.ok.set (k:=c.k) hcp.1 (by rw [lT];exact hcp.2)
      have okU:=st.ok okT (by omega) okk
      obtain⟨layd,depd,nold⟩:=st.told
      refine⟨fun σ' H'=>σ' = [some (.ref a),some (.ref b),some plv,some (.ref lp),some (.int (1+(m0':Nat))),some (.ref lk),some (.ref lc),some (.ref lm),v1,v2,v3,some (.int (c.k:Nat)),some qv,v6,some dv]/\d8 D H' kp2 (1+m0') U/\cm kp2 H31 H',?_,?_⟩
      . obtain⟨plvA,ovA,cvA,dsA,KtA,x1,x2,x3,x4⟩:=id K32
        obtain⟨dxA,hhA⟩:=id KtA
        refine⟨_,rfl,lk,_,_,_,rfl,rfl,aO.of hlk31,at2,kp2,dxA,_,rfl,hhA,rfl,_,rfl,_,rfl,kp2,plvA,ovA,cvA,qv,1+m0',c.k,T.n,T.ps,T.qs,c.p,T.cs,dsA,X0,rfl,KtA,x1,x2,x3,x4,rq,(by omega),okk,okT.tok,okT.cq,okT.q4,fun os hos=>⟨fun hn plv' ov' cv' ds' H' rp cc' ro rc A' b'=>?_,fun es hes plv' ov' t H' ht' rp ro A' b'=>?_⟩⟩
        . obtain⟨e1,e2⟩:=eV.one (k:=c.k) (p:=c.p) (d:=.none) (d':=c.dd) (T:=⟨T.ps.set c.k c.p,_,_,T.n+1⟩) ⟨os,hos,.anew hn rfl rfl rfl rfl,rfl⟩ st
          have rd':aJ H' .bg c.dd:=by rw [<-e1];exact .bg
          refine⟨_,rfl,c.dd,c.dd,rd',rdv.av (b'.av hhA) nold,layd,layd,(by omega),_,rfl,?_⟩
          refine bP (by rw [PySem.SeqAt.eqv_refl _ layd];rfl) ⟨rfl,?_,b'⟩
          rw [<-e2]
          exact⟨plv',ov',cv',ds',A',rp,ro,rc,cc'⟩
        . obtain⟨e1,e2⟩:=eV.one (k:=c.k) (p:=c.p) (d:=.tuple ((eR T.cs c.k).map lR)) (d':=c.dd) (T:=⟨T.ps.set c.k c.p,_,T.cs,T.n⟩) ⟨os,hos,.nR es hes rfl rfl rfl rfl,rfl⟩ st
          have rd':aJ H' (.ref t) c.dd:=by rw [<-e1];exact .tup ht' (sS _)
          refine⟨_,rfl,c.dd,c.dd,rd',rdv.av (b'.av hhA) nold,layd,layd,(by omega),_,rfl,?_⟩
          refine bP (by rw [PySem.SeqAt.eqv_refl _ layd];rfl) ⟨rfl,?_,b'⟩
          rw [<-e2]
          exact⟨plv',ov',cvA,dsA,A',rp,ro,x3.av (b'.av hhA) (fU x4),x4⟩
      rintro σ' H32 ⟨rfl,KU,b32⟩
      have nI:∀{c:Addr} {zs:List V},H31 c=some (.lst zs)->c≠kp2:=fun {c zs} e z=>by obtain⟨dx,fs,e'⟩:=K32.ins;rw [z,e'] at e;cases e
      obtain⟨dx2,fs2,ek2⟩:=K32.ins
      exact⟨_,_,_,_,_,_,_,U,rfl,B31.HV K32 b32,b32 _ _ hlk31 (nI hlk31),b32 _ _ hlc31 (nI hlc31),rcv31.av (b32.av ek2) nol,K31.but K32 b32 n02,KU,okU,by rw [st.len,lT],runU,fun c o e=>b32 _ _ (sH31 _ _ e) (ar e nH2)⟩
    rintro IA H40 ⟨v1,v2,v3,v4,v5,v6,v7,T,rfl,B40,hlk40,hlc40,rcv40,K40,K42,okT,lT,nJ,sH40⟩
    have eT:T=S0:=by
      rw [hcl,Jn] at nJ
      exact nJ.one run
    subst eT
    refine⟨_,rfl,_,rfl,b,20,rfl,B40,⟨by decide,by decide +kernel⟩,fun z5 H41 z50 z51 B41 X41=>⟨_,_,rfl,rfl,?_⟩⟩
    obtain⟨c5,rfl⟩:∃c:Nat,z5=c:=⟨z5.toNat,by omega⟩
    refine⟨b,61+c5,1,rfl,B41,(by omega),(by omega),(by decide),fun pv5 xs5 ps5 H42 r42 l42 pok5 xok5 B42 X42=>?_⟩
    have K42a:=(K40.fix B40 X41).fix B41 X42
    have K42b:=(K42.fix B40 X41).fix B41 X42
    have nlkb:lk≠b:=fun z=>by obtain⟨x,y,hb,_⟩:=B40;rw [<-z,hlk40] at hb;cases hb
    have hlk42:=X42 _ _ (X41 _ _ hlk40 nlkb) nlkb
    obtain⟨p5,vs5,rfl,e5,rv5⟩:=aJ.bH (show aJ H42 pv5 (.tuple (ps5.map bK)) from r42)
    have hv5:vs5.length=61+c5:=by have:=rv5.len;rw [ID] at this;rw [this,l42]
    refine⟨_,rfl,p5,vs5,_,rfl,e5,(by omega),(by omega),fun H43 s43=>⟨_,rfl,?_⟩⟩
    refine bP rfl ?_
    refine⟨_,rfl,lk,_,_,_,rfl,rfl,aO.of (s43 _ _ hlk42),at2,kp2,_,_,rfl,K42b.same s43,fun t2 ds2 H44 cc2 r2 s44=>?_⟩
    refine⟨_,rfl,lk,_,_,_,rfl,rfl,aO.of (s44 _ _ (s43 _ _ hlk42)),eE,kp0,_,_,rfl,(K42a.same s43).same s44,fun t3 ds3 H45 cc3 r3 s45=>?_⟩
    obtain rfl:=sR cc2 cc3
    obtain⟨layA,depA⟩:=okT.four cc2
    refine⟨_,_,r2.same s45 (j8 cc2),r3,layA,layA,(by omega),?_⟩
    show Q (.bl (PyData.eqv _ _)) H45
    rw [PySem.SeqAt.eqv_refl _ layA]
    exact q _
end
theorem all_mk {l:PySem.W.OpenLaw} {w:World} {K:IC} {h:Heap} {mg:Str->Option Value} {fa:Addr} (X:K.In h) (G:h.Ns mainGlobals mg) (hfa:mg "law" = some (.ref fa))
  {f0 f1 f2 f3 f4 f5 f6 f7 f8 f9 f10 f11 f12 f13 f14 f15 f16 f17 f18 f19 f20 f21 f22 f23 f24 f25 f26 f27 f28 f29 f30 f31 f32 f33 f34 f35 f36 f37 f38 f39 f40 f41 f42 f43 f44 f45 f46 f47 f48 f49 f50 f51:Addr} {g0 g1 g2 g3 g4 g5 g6 g7 g8 g9 g10 g11 g12 g13 g14 g15 g16 g17 g18 g19 g20 g21 g22 g23 g24 g25 g26 g27 g28 g29 g30 g31 g32 g33 g34 g35 g36 g37 g38 g39 g40 g41 g42 g43 g44 g45 g46 g47 g48 g49 g50 g51:FuncData}
  {aA:Addr} {dcA:Option Addr} {nA:Nat} {slA:Array (Option Value)}
  {cP cM cN cR cL cO:Addr}
  {tk_MOST_TO_LEAD:Tok}
  {aE:Addr} {epE:Nat} {s0:Addr} {hsE0:Int} {tkE0:Tok} {dcE0:Option Addr} {nnE0:Nat} {slE0:Array (Option Value)}  {s1:Addr} {hsE1:Int} {tkE1:Tok} {dcE1:Option Addr} {nnE1:Nat} {slE1:Array (Option Value)} {ttE1_0:Tok} {s2:Addr} {hsE2:Int} {tkE2:Tok} {dcE2:Option Addr} {nnE2:Nat} {slE2:Array (Option Value)} {ttE2_0:Tok} {ttE2_1:Tok} {ttE2_2:Tok} {ttE2_3:Tok} {s3:Addr} {hsE3:Int} {tkE3:Tok} {dcE3:Option Addr} {nnE3:Nat} {slE3:Array (Option Value)} {ttE3_0:Tok} {ttE3_1:Tok} {ttE3_2:Tok} {ttE3_3:Tok}
  {aD:Addr} {epD:Nat} {d0:Addr} {hsD0:Int} {tkD0:Tok} {dcD0:Option Addr} {nnD0:Nat} {slD0:Array (Option Value)} {ttD0_0:Tok} {ttD0_1:Tok} {d1:Addr} {hsD1:Int} {tkD1:Tok} {dcD1:Option Addr} {nnD1:Nat} {slD1:Array (Option Value)} {ttD1_0:Tok} {ttD1_1:Tok} {d2:Addr} {hsD2:Int} {tkD2:Tok} {dcD2:Option Addr} {nnD2:Nat} {slD2:Array (Option Value)} {ttD2_0:Tok} {ttD2_1:Tok} {d3:Addr} {hsD3:Int} {tkD3:Tok} {dcD3:Option Addr} {nnD3:Nat} {slD3:Array (Option Value)} {ttD3_0:Tok} {d4:Addr} {hsD4:Int} {tkD4:Tok} {dcD4:Option Addr} {nnD4:Nat} {slD4:Array (Option Value)} {ttD4_0:Tok}
  {C:Addr}
  {D:Addr}
  (z_len:IW K mainGlobals "len" = some none)
  (z_zip:IW K mainGlobals "zip" = some none)
  (z_tuple:IW K mainGlobals "tuple" = some none)
  (z_sorted:IW K mainGlobals "sorted" = some none)
  (z_set:IW K mainGlobals "set" = some none)
  (z_dict:IW K mainGlobals "dict" = some none)
  (z_min:IW K mainGlobals "min" = some none)
  (z_max:IW K mainGlobals "max" = some none)
  (z_range:IW K mainGlobals "range" = some none)
  (z_list:IW K mainGlobals "list" = some none)
  (z_int:IW K mainGlobals "int" = some none)
  (z_all:IW K mainGlobals "all" = some none)
  (z_enumerate:IW K mainGlobals "enumerate" = some none)
  (z_isinstance:IW K mainGlobals "isinstance" = some none)
  (z_ValueError:IW K mainGlobals "ValueError" = some none)
  (gA:IW K mainGlobals "ALL" = some (some (.ref aA))) (lA:K.lookup aA=some ⟨.type "tuple",dcA,.seq #[.none,.none] nA,slA⟩)
  (xgP:IW K mainGlobals "PlanError" = some (some (.ref cP))) (xgM:IW K mainGlobals "TooMany" = some (some (.ref cM))) (xgN:IW K mainGlobals "NoPiece" = some (some (.ref cN))) (xgR:IW K mainGlobals "NoRow" = some (some (.ref cR))) (xgL:IW K mainGlobals "NothingLeft" = some (some (.ref cL))) (xgO:IW K mainGlobals "NoPlan" = some (some (.ref cO))) (xoP:PySem.W.excIn K cP [.type "ValueError",.type "Exception",.type "BaseException",.type "object"] "ValueError.__new__" = true) (xaP:Jf K (.ref cP) "__getattribute__" = some (some (.builtin "BaseException.__getattribute__"))) (xnP:Jf K (.ref cP) "__getattr__" = some none) (xcP:Jf K (.ref cP) "__class__" = some (some (.builtin "object.__class__"))) (xbP:Kx K cP (.type "object")=some true) (xxP:Kx K cP (.type "BaseException")=some true) (xoM:PySem.W.excIn K cM [.type "ValueError",.type "Exception",.type "BaseException",.type "object"] "ValueError.__new__" = true) (xaM:Jf K (.ref cM) "__getattribute__" = some (some (.builtin "BaseException.__getattribute__"))) (xnM:Jf K (.ref cM) "__getattr__" = some none) (xcM:Jf K (.ref cM) "__class__" = some (some (.builtin "object.__class__"))) (xbM:Kx K cM (.type "object")=some true) (xxM:Kx K cM (.type "BaseException")=some true) (xyP:PySem.W.typeIn K (.ref cP)=some (.type "type")) (xsM:Kx K cM (.ref cP)=some true) (xkM:PySem.W.kitOne K (.ref cM) (.type "ValueError")=some true) (xmM:PySem.W.kitAny K (.ref cM) [.ref cN,.ref cO,.ref cR,.ref cL]=some false)
  (g_MOST_TO_LEAD:IW K mainGlobals "MOST_TO_LEAD" = some (some (.int 60 tk_MOST_TO_LEAD)))
  (gE:IW K mainGlobals "END_PARTS" = some (some (.ref aE))) (lE:K.lookup aE=some ⟨.type "dict",none,.dict #[⟨hsE0,.str "stop" tkE0,.ref s0⟩,⟨hsE1,.str "go" tkE1,.ref s1⟩,⟨hsE2,.str "less" tkE2,.ref s2⟩,⟨hsE3,.str "is" tkE3,.ref s3⟩] epE,#[]⟩) (qE0:K.lookup s0=some ⟨.type "tuple",dcE0,.seq #[] nnE0,slE0⟩) (qE1:K.lookup s1=some ⟨.type "tuple",dcE1,.seq #[.str "piece" ttE1_0] nnE1,slE1⟩) (qE2:K.lookup s2=some ⟨.type "tuple",dcE2,.seq #[.str "name" ttE2_0,.str "number" ttE2_1,.str "piece" ttE2_2,.str "piece" ttE2_3] nnE2,slE2⟩) (qE3:K.lookup s3=some ⟨.type "tuple",dcE3,.seq #[.str "name" ttE3_0,.str "number" ttE3_1,.str "piece" ttE3_2,.str "piece" ttE3_3] nnE3,slE3⟩)
  (gD:IW K mainGlobals "DEED_PARTS" = some (some (.ref aD))) (lD:K.lookup aD=some ⟨.type "dict",none,.dict #[⟨hsD0,.str "put" tkD0,.ref d0⟩,⟨hsD1,.str "copy" tkD1,.ref d1⟩,⟨hsD2,.str "add" tkD2,.ref d2⟩,⟨hsD3,.str "read" tkD3,.ref d3⟩,⟨hsD4,.str "tell" tkD4,.ref d4⟩] epD,#[]⟩) (qD0:K.lookup d0=some ⟨.type "tuple",dcD0,.seq #[.str "name" ttD0_0,.str "number" ttD0_1] nnD0,slD0⟩) (qD1:K.lookup d1=some ⟨.type "tuple",dcD1,.seq #[.str "name" ttD1_0,.str "name" ttD1_1] nnD1,slD1⟩) (qD2:K.lookup d2=some ⟨.type "tuple",dcD2,.seq #[.str "name" ttD2_0,.str "number" ttD2_1] nnD2,slD2⟩) (qD3:K.lookup d3=some ⟨.type "tuple",dcD3,.seq #[.str "name" ttD3_0] nnD3,slD3⟩) (qD4:K.lookup d4=some ⟨.type "tuple",dcD4,.seq #[.str "name" ttD4_0] nnD4,slD4⟩)
  (aCC:IW K mainGlobals "Row" = some (some (.ref C))) (pgC:Ka K C Str.empty=true) (hdC:Kl K C=true) (poC:KG K C=true) (saC:Jf K (.ref C) "__setattr__" = some (some (.builtin "object.__setattr__"))) (mkC:Kb K C=true) (kcC:JC K (.ref C)=true)
  (nC_members:Jf K (.ref C) "members" = some none)
  (nC_places:Jf K (.ref C) "places" = some none)
  (aCD:IW K mainGlobals "Keeper" = some (some (.ref D))) (pgD:Ka K D Str.empty=true) (hdD:Kl K D=true) (poD:KG K D=true) (saD:Jf K (.ref D) "__setattr__" = some (some (.builtin "object.__setattr__"))) (mkD:Kb K D=true) (kcD:JC K (.ref D)=true)
  (nD_kept:Jf K (.ref D) "kept" = some none)
  (nD_bound:Jf K (.ref D) "bound" = some none)
  (nD_past:Jf K (.ref D) "past" = some none)
  (nD_copies:Jf K (.ref D) "copies" = some none)
  (nD_times:Jf K (.ref D) "times" = some none)
  (D0:bF K "parts_of_kind" iq f0 g0)
  (D1:bF K "ways_on" nU f1 g1)
  (D2:bF K "without_ways" iJ f2 g2)
  (D3:bF K "names_of" mf f3 g3)
  (D4:bF K "lies_in" nV f4 g4)
  (D5:bF K "part_below" jS f5 g5)
  (D6:bF K "part_from" kh f6 g6)
  (D7:bF K "part_at" nW f7 g7)
  (D8:bF K "part_beside" jc f8 g8)
  (D9:bF K "part_of" nX f9 g9)
  (D10:bF K "is_within" ki f10 g10)
  (D11:bF K "facts_of" mi f11 g11)
  (D12:bF K "known" sZ f12 g12)
  (D13:bF K "with_known" jT f13 g13)
  (D14:bF K "covers" qe f14 g14)
  (D15:bF K "moved" tf f15 g15)
  (D16:bF K "stretch_behind" gS f16 g16)
  (D17:bF K "behind" qh f17 g17)
  (D18:bF K "known_beyond" iL f18 g18)
  (D19:bF K "leads" tj f19 g19)
  (D20:bF K "start" tm f20 g20)
  (D21:fz K C "__init__" "Row.__init__" iM f21 g21)
  (D22:fz K C "place_of" "Row.place_of" iN f22 g22)
  (D23:bF K "reached" nZ f23 g23)
  (D24:bF K "heads" tq f24 g24)
  (D25:bF K "copy_for" ml f25 g25)
  (D26:bF K "end_to" qi f26 g26)
  (D27:bF K "led_past" mn f27 g27)
  (D28:bF K "meets" tu f28 g28)
  (D29:bF K "with_piece" jU f29 g29)
  (D30:bF K "first_met" kj f30 g30)
  (D31:bF K "piece_for" km f31 g31)
  (D32:fz K D "__init__" "Keeper.__init__" fW f32 g32)
  (D33:fz K D "make_anew" "Keeper.make_anew" fO f33 g33)
  (D34:fz K D "mend" "Keeper.mend" jd f34 g34)
  (D35:fz K D "exchange" "Keeper.exchange" fX f35 g35)
  (D36:fz K D "plan" "Keeper.plan" je f36 g36)
  (D37:fz K D "other" "Keeper.other" iO f37 g37)
  (D38:fz K D "paper" "Keeper.paper" iP f38 g38)
  (D39:fz K D "made" "Keeper.made" jf f39 g39)
  (D40:bF K "_law_bag" oa f40 g40)
  (D41:bF K "_law_take" mr f41 g41)
  (D42:bF K "_law_names" kn f42 g42)
  (D43:bF K "_law_number" jW f43 g43)
  (D44:bF K "_law_deed" mw f44 g44)
  (D45:bF K "_law_end" og f45 g45)
  (D46:bF K "_law_plan" mx f46 g46)
  (D47:bF K "_law_all_names" ix f47 g47)
  (D48:bF K "_law_piece" kq f48 g48)
  (D49:bF K "_law_tells" ku f49 g49)
  (D50:bF K "_law_too_many" iQ f50 g50)
  (D51:bF K "law" oM f51 g51) :
  ∃fd:FuncData,(∀(s:Shared) (v:Value),BindsTo s fd ⟨[v],[]⟩ [("script",v)])/\∀base:Heap,K.In base->base.Ns mainGlobals mg->aW l.prog w K mg base bQ 17 fa fd ["script"] (uX K):=by
 have e:=hfa.symm.trans (Jx X G D51.a)
 cases e
 have Z:Bl mg:=⟨Jy X G z_len,Jy X G z_zip,Jy X G z_tuple,Jy X G z_sorted,Jy X G z_set,Jy X G z_dict,Jy X G z_min,Jy X G z_max,Jy X G z_range,Jy X G z_list,Jy X G z_int,Jy X G z_all,Jy X G z_enumerate,Jy X G z_isinstance,Jy X G z_ValueError⟩
 have GA:iH K mg aA:=⟨Jx X G gA,_,_,_,lA⟩
 have GX:zh K mg cP cM cN cR cL cO:=⟨Jx X G xgP,Jx X G xgM,Jx X G xgN,Jx X G xgR,Jx X G xgL,Jx X G xgO,⟨xoP,xaP,xnP,xcP,xbP,xxP⟩,⟨xoM,xaM,xnM,xcM,xbM,xxM⟩,xyP,xsM,xkM,xmM⟩
 have G_MOST_TO_LEAD:mg "MOST_TO_LEAD" = some (.int 60 tk_MOST_TO_LEAD):=Jx X G g_MOST_TO_LEAD
 have GE:vD K mg aE s0 s1 s2 s3:=⟨⟨Jx X G gE,_,_,lE,(.cons rfl rfl (.cons rfl rfl (.cons rfl rfl (.cons rfl rfl .nil))))⟩,⟨_,_,_,qE0,rfl,rfl,(by show 0<=sizeLine;decide),.nil⟩,⟨_,_,_,qE1,rfl,rfl,(by show 1<=sizeLine;decide),(.cons ⟨_,rfl⟩ .nil)⟩,⟨_,_,_,qE2,rfl,rfl,(by show 4<=sizeLine;decide),(.cons ⟨_,rfl⟩ (.cons ⟨_,rfl⟩ (.cons ⟨_,rfl⟩ (.cons ⟨_,rfl⟩ .nil))))⟩,⟨_,_,_,qE3,rfl,rfl,(by show 4<=sizeLine;decide),(.cons ⟨_,rfl⟩ (.cons ⟨_,rfl⟩ (.cons ⟨_,rfl⟩ (.cons ⟨_,rfl⟩ .nil))))⟩⟩
 have GD:uY K mg aD d0 d1 d2 d3 d4:=⟨⟨Jx X G gD,_,_,lD,(.cons rfl rfl (.cons rfl rfl (.cons rfl rfl (.cons rfl rfl (.cons rfl rfl .nil)))))⟩,⟨_,_,_,qD0,rfl,rfl,(by show 2<=sizeLine;decide),(.cons ⟨_,rfl⟩ (.cons ⟨_,rfl⟩ .nil))⟩,⟨_,_,_,qD1,rfl,rfl,(by show 2<=sizeLine;decide),(.cons ⟨_,rfl⟩ (.cons ⟨_,rfl⟩ .nil))⟩,⟨_,_,_,qD2,rfl,rfl,(by show 2<=sizeLine;decide),(.cons ⟨_,rfl⟩ (.cons ⟨_,rfl⟩ .nil))⟩,⟨_,_,_,qD3,rfl,rfl,(by show 1<=sizeLine;decide),(.cons ⟨_,rfl⟩ .nil)⟩,⟨_,_,_,qD4,rfl,rfl,(by show 1<=sizeLine;decide),(.cons ⟨_,rfl⟩ .nil)⟩⟩
 have T:sJ K C:=⟨⟨pgC,hdC,poC,saC⟩,nC_members,nC_places⟩
 have TK:gC K D:=⟨⟨pgD,hdD,poD,saD⟩,nD_kept,nD_bound,nD_past,nD_copies,nD_times⟩
 obtain⟨oc,od,kV,dc,pm,an,cd,ct,sl,rfl,lk,hcd⟩:=D51.F.ex
 refine⟨Jv "law" "law" (dI oM) (cZ oM) (au oM) .none kV dc pm an cd ct,fun s v=>.of_eq rfl,fun base _ _=>?_⟩
 have O_parts_of_kind:=bw l.prog w base X G D0 (qm D0.F Z) (rJ fun _ _ _ _ _ _ _ _ _=>rfl)
 have O_ways_on:=bw l.prog w base X G D1 (zm D1.F Z GE O_parts_of_kind) (jg fun _ _ _ _ _ _ _=>rfl)
 have O_without_ways:=bw l.prog w base X G D2 (rX D2.F Z O_ways_on) (jg fun _ _ _ _ _ _ _=>rfl)
 have O_names_of:=bw l.prog w base X G D3 (wY D3.F Z GD GE O_parts_of_kind) (jg fun _ _ _ _ _ _ _=>rfl)
 have O_lies_in:=bw l.prog w base X G D4 (zo D4.F Z) (fB fun _ _ _ _ _ _ _ _=>rfl)
 have O_part_below:=bw l.prog w base X G D5 (uP D5.F Z) (fB fun _ _ _ _ _ _ _ _=>rfl)
 have O_part_from:=bw l.prog w base X G D6 (wz D6.F Z) (fB fun _ _ _ _ _ _ _ _=>rfl)
 have O_part_at:=bw l.prog w base X G D7 (zp D7.F Z O_lies_in) (fB fun _ _ _ _ _ _ _ _=>rfl)
 have O_part_beside:=bw l.prog w base X G D8 (tE D8.F Z) (fB fun _ _ _ _ _ _ _ _=>rfl)
 have O_part_of:=bw l.prog w base X G D9 (zq D9.F Z O_part_below O_part_from O_part_at O_part_beside) (G6 fun _ _ _ _ _ _ _ _ _ _=>rfl)
 have O_is_within:=bw l.prog w base X G D10 (wA D10.F Z) (fB fun _ _ _ _ _ _ _ _=>rfl)
 have O_facts_of:=bw l.prog w base X G D11 (wZ D11.F Z GA) (jg fun _ _ _ _ _ _ _=>rfl)
 have O_known:=bw l.prog w base X G D12 (CP D12.F Z GA) (fB fun _ _ _ _ _ _ _ _=>rfl)
 have O_with_known:=bw l.prog w base X G D13 (uQ D13.F Z GA O_facts_of) (rJ fun _ _ _ _ _ _ _ _ _=>rfl)
 have O_covers:=bw l.prog w base X G D14 (A5 D14.F Z GA O_is_within) (fB fun _ _ _ _ _ _ _ _=>rfl)
 have O_moved:=bw l.prog w base X G D15 (CQ D15.F Z) (fB fun _ _ _ _ _ _ _ _=>rfl)
 have O_stretch_behind:=bw l.prog w base X G D16 (oQ D16.F Z GA O_moved) (fB fun _ _ _ _ _ _ _ _=>rfl)
 have O_behind:=bw l.prog w base X G D17 (Ba D17.F Z GA O_stretch_behind O_facts_of) (fB fun _ _ _ _ _ _ _ _=>rfl)
 have O_known_beyond:=bw l.prog w base X G D18 (rY D18.F Z GA O_ways_on O_known O_part_of O_with_known) (fB fun _ _ _ _ _ _ _ _=>rfl)
 have O_leads:=bw l.prog w base X G D19 (CS D19.F Z O_known_beyond O_ways_on) (fB fun _ _ _ _ _ _ _ _=>rfl)
 have O_start:=bw l.prog w base X G D20 (CT D20.F Z O_names_of) (jg fun _ _ _ _ _ _ _=>rfl)
 have O_Row___init__:=Er l.prog w base X G aCC mkC kcC D21 (rZ D21.F Z T) (fB fun _ _ _ _ _ _ _ _=>rfl)
 have O_Row_place_of:=hG l.prog w base mg T.cl D22 (r9 D22.F Z T) (fB fun _ _ _ _ _ _ _ _=>rfl)
 have O_reached:=bw l.prog w base X G D23 (zr D23.F Z O_ways_on) (jg fun _ _ _ _ _ _ _=>rfl)
 have O_heads:=bw l.prog w base X G D24 (CU D24.F Z O_reached O_ways_on) (jg fun _ _ _ _ _ _ _=>rfl)
 have O_copy_for:=bw l.prog w base X G D25 (w5 D25.F Z) (G6 fun _ _ _ _ _ _ _ _ _ _=>rfl)
 have O_end_to:=bw l.prog w base X G D26 (Bb D26.F Z O_without_ways) (fB fun _ _ _ _ _ _ _ _=>rfl)
 have OX_led_past:=EI l.prog w base X G D27 (w6 D27.F Z G_MOST_TO_LEAD GX T O_heads O_start O_Row___init__ O_Row_place_of O_behind O_leads O_copy_for O_end_to) (fB fun _ _ _ _ _ _ _ _=>rfl)
 have O_led_past:=OX_led_past.calm (sp':=fS l.prog w C) fun _ _ _ _ h=>.inl (EJ h)
 have O_meets:=bw l.prog w base X G D28 (CV D28.F Z O_covers) (fB fun _ _ _ _ _ _ _ _=>rfl)
 have O_with_piece:=bw l.prog w base X G D29 (uR D29.F Z) (rJ fun _ _ _ _ _ _ _ _ _=>rfl)
 have O_first_met:=bw l.prog w base X G D30 (wB D30.F Z O_meets) (fB fun _ _ _ _ _ _ _ _=>rfl)
 have O_piece_for:=bw l.prog w base X G D31 (wC D31.F Z O_leads O_behind O_first_met O_end_to) (rJ fun _ _ _ _ _ _ _ _ _=>rfl)
 have OX_Keeper___init__:=CL l.prog w base X G aCD mkD kcD D32 (oh D32.F Z GX T TK OX_led_past) (rJ fun _ _ _ _ _ _ _ _ _=>rfl)
 have O_Keeper___init__:=OX_Keeper___init__.calm (sp':=jy D) fun _ _ _ _ h=>.inl (A0 h)
 have O_Keeper_make_anew:=hG l.prog w base mg TK.cl D33 (mK D33.F Z T TK O_led_past) (jg fun _ _ _ _ _ _ _=>rfl)
 have O_Keeper_mend:=hG l.prog w base mg TK.cl D34 (tF D34.F Z TK) (rJ fun _ _ _ _ _ _ _ _ _=>rfl)
 have O_Keeper_exchange:=hG l.prog w base mg TK.cl D35 (oi D35.F Z TK O_with_piece O_piece_for O_Keeper_make_anew O_Keeper_mend) (rJ fun _ _ _ _ _ _ _ _ _=>rfl)
 have O_Keeper_plan:=hG l.prog w base mg TK.cl D36 (tG D36.F Z TK) (jg fun _ _ _ _ _ _ _=>rfl)
 have O_Keeper_other:=hG l.prog w base mg TK.cl D37 (sd D37.F Z TK) (jg fun _ _ _ _ _ _ _=>rfl)
 have O_Keeper_paper:=hG l.prog w base mg TK.cl D38 (se D38.F Z TK) (jg fun _ _ _ _ _ _ _=>rfl)
 have O_Keeper_made:=hG l.prog w base mg TK.cl D39 (tH D39.F Z TK) (jg fun _ _ _ _ _ _ _=>rfl)
 have O_law_bag:=bw l.prog w base X G D40 (zt D40.F Z) (fB fun _ _ _ _ _ _ _ _=>rfl)
 have O_law_take:=bw l.prog w base X G D41 (w9 D41.F Z) (fB fun _ _ _ _ _ _ _ _=>rfl)
 have O_law_names:=bw l.prog w base X G D42 (wF D42.F Z O_law_take) (jg fun _ _ _ _ _ _ _=>rfl)
 have O_law_number:=bw l.prog w base X G D43 (uS D43.F Z O_law_take) (jg fun _ _ _ _ _ _ _=>rfl)
 have O_law_deed:=bw l.prog w base X G D44 (xa D44.F Z O_law_take O_law_number) (fB fun _ _ _ _ _ _ _ _=>rfl)
 have O_law_end:=bw l.prog w base X G D45 (zu D45.F Z O_law_take O_law_number) (rJ fun _ _ _ _ _ _ _ _ _=>rfl)
 have O_law_plan:=bw l.prog w base X G D46 (xc D46.F Z O_law_take O_law_names O_law_deed O_law_end) (rJ fun _ _ _ _ _ _ _ _ _=>rfl)
 have O_law_all_names:=bw l.prog w base X G D47 (qo D47.F Z) (jg fun _ _ _ _ _ _ _=>rfl)
 have O_law_piece:=bw l.prog w base X G D48 (wG D48.F Z O_law_take O_law_all_names O_law_deed O_law_end O_law_number) (fB fun _ _ _ _ _ _ _ _=>rfl)
 have O_law_tells:=bw l.prog w base X G D49 (wH D49.F Z TK O_Keeper_plan O_Keeper_other O_Keeper_paper O_Keeper_made) (jg fun _ _ _ _ _ _ _=>rfl)
 have O_law_too_many:=bw l.prog w base X G D50 (sf D50.F Z GX TK OX_Keeper___init__) (fB fun _ _ _ _ _ _ _ _=>rfl)
 exact Gd D51.F Z TK O_law_bag O_law_take O_law_plan O_Keeper___init__ O_Keeper_exchange O_Keeper_plan O_Keeper_made O_law_piece O_law_tells O_law_too_many
theorem walk {l:PySem.W.OpenLaw}{q:Program}{loose:List Str}{XP:(Str->Option Value)->Heap->Prop}{YP:World->Heap->Prop}{d:DefRec}{K:Params->IC}(hn:l.most=some 63)(hdf:d.params.defaults=[])
  (hY:∀(w:World) (h:Heap),YP w h->(K w.params).In h)
  (F:∀(w:World) (mg:Str->Option Value) (fa:Addr) (h:Heap),(K w.params).In h->h.Ns mainGlobals mg->mg d.name=some (.ref fa) ->
   ∃fd:FuncData,(∀(s:Shared) (u:Value),BindsTo s fd ⟨[u],[]⟩ [("script",u)])/\∀base:Heap,(K w.params).In base->base.Ns mainGlobals mg->aW l.prog w (K w.params) mg base bQ 17 fa fd ["script"] (uX (K w.params))) :
  PySem.W.WalkO q loose XP YP l.row.toRowW d [] (fun f vs=>PySem.call f vs) :=
 L2.DM (n:=63) (k:=17) (x := "script") (CX:=fun _=>bQ) (sp:=fun w=>uX (K w.params)) hn (by decide) hdf ⟨rfl,by decide,by decide⟩ hY F (fun _ _ a ns hl _ hS=>⟨a,ns,rfl,hS,hl,fun _=>rfl⟩) fun _ _ _ _ _ z=>z
end My
theorem PySem.W.Fast.tw5252229689114458482:True:=trivial
theorem PySem.W.Fast.tw3308805983908570824:True:=trivial
theorem PySem.W.Fast.tw9975081573957566182:True:=trivial
theorem PySem.W.Fast.tw12633876740991701852:True:=trivial
theorem PySem.W.Fast.tw557217969551622157:True:=trivial
theorem PySem.W.Fast.tw14476916963603010632:True:=trivial
theorem PySem.W.Fast.tw4048003812952796066:True:=trivial
theorem PySem.W.Fast.tw7224975628719316788:True:=trivial
theorem PySem.W.Fast.tw13902682355305636427:True:=trivial
theorem PySem.W.Fast.tw16279952103633097242:True:=trivial
theorem PySem.W.Fast.tw2008940610904751772:True:=trivial
theorem PySem.W.Fast.tw3637263533261632438:True:=trivial
theorem PySem.W.Fast.tw17644843246493384606:True:=trivial
theorem PySem.W.Fast.tw18029646549142656752:True:=trivial
theorem PySem.W.Fast.tw10635287836121213327:True:=trivial
theorem PySem.W.Fast.tw9049767576464239451:True:=trivial
theorem PySem.W.Fast.tw11468785077276690865:True:=trivial
theorem PySem.W.Fast.tw376247935399273193:True:=trivial
theorem PySem.W.Fast.tw9815141093295643643:True:=trivial
theorem PySem.W.Fast.tw1222819611395984313:True:=trivial
theorem PySem.W.Fast.tw13452233092834844754:True:=trivial
theorem PySem.W.Fast.tw14075450751298760100:True:=trivial
theorem PySem.W.Fast.tw140971984027397475:True:=trivial
theorem PySem.W.Fast.tw15284157259333281141:True:=trivial
theorem PySem.W.Fast.tw2442812757933816133:True:=trivial
theorem PySem.W.Fast.tw16378975887413768107:True:=trivial
theorem PySem.W.Fast.tw16882904510124999040:True:=trivial
theorem PySem.W.Fast.tw17897997711197108644:True:=trivial
theorem PySem.W.Fast.tw1427629528079636238:True:=trivial
theorem PySem.W.Fast.tw9928465786647972822:True:=trivial
theorem PySem.W.Fast.tw13554947820060002413:True:=trivial
theorem PySem.W.Fast.tw8949097001985282084:True:=trivial
theorem PySem.W.Fast.tw14539394362674974018:True:=trivial
theorem PySem.W.Fast.tw10104648285540524300:True:=trivial
theorem PySem.W.Fast.tw15564146064307512048:True:=trivial
theorem PySem.W.Fast.tw8399578090661232425:True:=trivial
theorem PySem.W.Fast.tw3935164451753511112:True:=trivial
theorem PySem.W.Fast.tw12744826254548442427:True:=trivial
theorem PySem.W.Fast.tw3280231107644114896:True:=trivial
theorem PySem.W.Fast.tw641927445172946471:True:=trivial
theorem PySem.W.Fast.tw15585463019841692750:True:=trivial
theorem PySem.W.Fast.tw18262533820185766794:True:=trivial
theorem PySem.W.Fast.tw719425576742122827:True:=trivial
theorem PySem.W.Fast.tw14054068740530415464:True:=trivial
theorem PySem.W.Fast.tw17879989583194163870:True:=trivial
theorem PySem.W.Fast.tw6908686450180135248:True:=trivial
theorem PySem.W.Fast.tw12201990304498659851:True:=trivial
theorem PySem.W.Fast.tw17563256702094140568:True:=trivial
theorem PySem.W.Fast.tw5330136811487413614:True:=trivial
theorem PySem.W.Fast.tw16592462308948380870:True:=trivial
theorem PySem.W.Fast.tw6980933839559870970:True:=trivial
theorem PySem.W.Fast.tw6062399709057913082:True:=trivial
theorem PySem.W.Fast.tw10259656526402283756:True:=trivial
theorem PySem.W.Fast.tw2066072368978284377:True:=trivial
theorem PySem.W.Fast.tw8508568193226258287:True:=trivial
theorem PySem.W.Fast.tw6759377955093995762:True:=trivial
theorem PySem.W.Fast.tw11034074186329524984:True:=trivial
theorem PySem.W.Fast.tw2968904664367508995:True:=trivial
theorem PySem.W.Fast.tw13805291183393118124:True:=trivial
theorem PySem.W.Fast.tw15016548957889104637:True:=trivial
theorem PySem.W.Fast.tw3179214998830476805:True:=trivial
theorem PySem.W.Fast.tw6492854541524309981:True:=trivial
theorem PySem.W.Fast.tw13276501453926276470:True:=trivial
theorem PySem.W.Fast.tw12306406356529081459:True:=trivial
theorem PySem.W.Fast.tw5358220451546824193:True:=trivial
theorem PySem.W.Fast.tw16751121859666755668:True:=trivial
theorem PySem.W.Fast.tw1886711444918251804:True:=trivial
theorem PySem.W.Fast.tw246398341563286600:True:=trivial
theorem PySem.W.Fast.tw5662113778520799535:True:=trivial
theorem PySem.W.Fast.tw9213532412689235304:True:=trivial
theorem PySem.W.Fast.tw437177596317419170:True:=trivial
theorem PySem.W.Fast.tw3953218653241354502:True:=trivial
theorem PySem.W.Fast.tw10352430522791559665:True:=trivial
theorem PySem.W.Fast.tw11925257703833243701:True:=trivial
theorem PySem.W.Fast.tw1746341666856726670:True:=trivial
theorem PySem.W.Fast.tw12736894431602243096:True:=trivial
theorem PySem.W.Fast.tw10018311852952608620:True:=trivial
theorem PySem.W.Fast.tw1028722091359229480:True:=trivial
theorem PySem.W.Fast.tw2877850258281209732:True:=trivial
theorem PySem.W.Fast.tw16954640107528353307:True:=trivial
theorem PySem.W.Fast.tw139068235816485206:True:=trivial
theorem PySem.W.Fast.tw9810762997018993763:True:=trivial
theorem PySem.W.Fast.tw8588625749164533803:True:=trivial
theorem PySem.W.Fast.tw12950181327563544781:True:=trivial
theorem PySem.W.Fast.tw703384539980771583:True:=trivial
theorem PySem.W.Fast.tw14639045183449811563:True:=trivial
theorem PySem.W.Fast.tw6204706239680682148:True:=trivial
theorem PySem.W.Fast.tw4709653041802478867:True:=trivial
theorem PySem.W.Fast.tw7234296944224164093:True:=trivial
theorem PySem.W.Fast.tw10441329335212302214:True:=trivial
theorem PySem.W.Fast.tw17440055755369331005:True:=trivial
theorem PySem.W.Fast.tw4280375069651407083:True:=trivial
theorem PySem.W.Fast.tw5386354102788288583:True:=trivial
theorem PySem.W.Fast.tw8610336817859537586:True:=trivial
theorem PySem.W.Fast.tw9255512978110943965:True:=trivial
theorem PySem.W.Fast.tw16730107085276414671:True:=trivial
theorem PySem.W.Fast.tw16880687620041621101:True:=trivial
theorem PySem.W.Fast.tw13240393487442048517:True:=trivial
theorem PySem.W.Fast.tw9119295711338011681:True:=trivial
theorem PySem.W.Fast.tw8010247801845822534:True:=trivial
theorem PySem.W.Fast.tw13359559916264736349:True:=trivial
theorem PySem.W.Fast.tw4268436151851972535:True:=trivial
theorem PySem.W.Fast.tw10896952800549989100:True:=trivial
theorem PySem.W.Fast.tw10756877156696441071:True:=trivial
theorem PySem.W.Fast.tw17588424694472681880:True:=trivial
theorem PySem.W.Fast.tw6371961127332368276:True:=trivial
theorem PySem.W.Fast.tw7800105041498418645:True:=trivial
theorem PySem.W.Fast.tw14945645898655775339:True:=trivial
theorem PySem.W.Fast.tw6791580970841209911:True:=trivial
theorem PySem.W.Fast.tw12240411737597427214:True:=trivial
theorem PySem.W.Fast.tw8186077529544966453:True:=trivial
theorem PySem.W.Fast.tw2146654801697704721:True:=trivial
theorem PySem.W.Fast.tw10521239415464364068:True:=trivial
theorem PySem.W.Fast.tw1960780661290631696:True:=trivial
theorem PySem.W.Fast.tw10406639830972292075:True:=trivial
theorem PySem.W.Fast.tw16813281708989793785:True:=trivial
theorem PySem.W.Fast.tw6577593672978957813:True:=trivial
theorem PySem.W.Fast.tw15428251107502062577:True:=trivial
theorem PySem.W.Fast.tw16863920404512725032:True:=trivial
theorem PySem.W.Fast.tw1599591151507138170:True:=trivial
theorem PySem.W.Fast.tw12472269603139699960:True:=trivial
theorem PySem.W.Fast.tw8402240704272502084:True:=trivial
theorem PySem.W.Fast.tw4791739500506415219:True:=trivial
theorem PySem.W.Fast.tw8007789759186143228:True:=trivial
theorem PySem.W.Fast.tw7188048192590780668:True:=trivial
theorem PySem.W.Fast.tw7885904429049468015:True:=trivial
theorem PySem.W.Fast.tw8107915982882594738:True:=trivial
theorem PySem.W.Fast.tw2569294769658677375:True:=trivial
theorem PySem.W.Fast.tw794626386627698988:True:=trivial
theorem PySem.W.Fast.tw13641105828699391190:True:=trivial
theorem PySem.W.Fast.tw13479571918770509292:True:=trivial
theorem PySem.W.Fast.tw3425838890904288119:True:=trivial
theorem PySem.W.Fast.tw4231650041302892103:True:=trivial
theorem PySem.W.Fast.tw3866539283174068689:True:=trivial
theorem PySem.W.Fast.tw4950365130464799567:True:=trivial
theorem PySem.W.Fast.tw3287097042049109126:True:=trivial
open PySem PySem.W PyProof.Rows
set_option maxRecDepth 100000 in
set_option maxHeartbeats 0 in
theorem PySem.Challenge.cw_ledpast_k46_two_keepers_holds : PySem.Challenge.rw_ledpast_k46_two_keepers.Holds := by
 w_on; o_law; k_head; (case hw => w_witness2)
 k_fill
 refine My.walk (l := PySem.Challenge.rw_ledpast_k46_two_keepers) rfl rfl (fun w h Y => PySem.W.kIn_of Y) ?F
 case F =>
  intro w mg fa h KX G hmg
  refine' My.all_mk KX G hmg ?z_len ?z_zip ?z_tuple ?z_sorted ?z_set ?z_dict ?z_min ?z_max ?z_range ?z_list ?z_int ?z_all ?z_enumerate ?z_isinstance ?z_ValueError ?gA ?lA ?xgP ?xgM ?xgN ?xgR ?xgL ?xgO ?xoP ?xaP ?xnP ?xcP ?xbP ?xxP ?xoM ?xaM ?xnM ?xcM ?xbM ?xxM ?xyP ?xsM ?xkM ?xmM ?g_MOST_TO_LEAD ?gE ?lE ?qE0 ?qE1 ?qE2 ?qE3 ?gD ?lD ?qD0 ?qD1 ?qD2 ?qD3 ?qD4 ?aCC ?pgC ?hdC ?poC ?saC ?mkC ?kcC ?nC_members ?nC_places ?aCD ?pgD ?hdD ?poD ?saD ?mkD ?kcD ?nD_kept ?nD_bound ?nD_past ?nD_copies ?nD_times (L2.def_mk ?a0 ?l0 ?c0 ?k0) (L2.def_mk ?a1 ?l1 ?c1 ?k1) (L2.def_mk ?a2 ?l2 ?c2 ?k2) (L2.def_mk ?a3 ?l3 ?c3 ?k3) (L2.def_mk ?a4 ?l4 ?c4 ?k4) (L2.def_mk ?a5 ?l5 ?c5 ?k5) (L2.def_mk ?a6 ?l6 ?c6 ?k6) (L2.def_mk ?a7 ?l7 ?c7 ?k7) (L2.def_mk ?a8 ?l8 ?c8 ?k8) (L2.def_mk ?a9 ?l9 ?c9 ?k9) (L2.def_mk ?a10 ?l10 ?c10 ?k10) (L2.def_mk ?a11 ?l11 ?c11 ?k11) (L2.def_mk ?a12 ?l12 ?c12 ?k12) (L2.def_mk ?a13 ?l13 ?c13 ?k13) (L2.def_mk ?a14 ?l14 ?c14 ?k14) (L2.def_mk ?a15 ?l15 ?c15 ?k15) (L2.def_mk ?a16 ?l16 ?c16 ?k16) (L2.def_mk ?a17 ?l17 ?c17 ?k17) (L2.def_mk ?a18 ?l18 ?c18 ?k18) (L2.def_mk ?a19 ?l19 ?c19 ?k19) (L2.def_mk ?a20 ?l20 ?c20 ?k20) (L2.met_mk ?a21 ?i21 ?l21 ?c21 ?k21) (L2.met_mk ?a22 ?i22 ?l22 ?c22 ?k22) (L2.def_mk ?a23 ?l23 ?c23 ?k23) (L2.def_mk ?a24 ?l24 ?c24 ?k24) (L2.def_mk ?a25 ?l25 ?c25 ?k25) (L2.def_mk ?a26 ?l26 ?c26 ?k26) (L2.def_mk ?a27 ?l27 ?c27 ?k27) (L2.def_mk ?a28 ?l28 ?c28 ?k28) (L2.def_mk ?a29 ?l29 ?c29 ?k29) (L2.def_mk ?a30 ?l30 ?c30 ?k30) (L2.def_mk ?a31 ?l31 ?c31 ?k31) (L2.met_mk ?a32 ?i32 ?l32 ?c32 ?k32) (L2.met_mk ?a33 ?i33 ?l33 ?c33 ?k33) (L2.met_mk ?a34 ?i34 ?l34 ?c34 ?k34) (L2.met_mk ?a35 ?i35 ?l35 ?c35 ?k35) (L2.met_mk ?a36 ?i36 ?l36 ?c36 ?k36) (L2.met_mk ?a37 ?i37 ?l37 ?c37 ?k37) (L2.met_mk ?a38 ?i38 ?l38 ?c38 ?k38) (L2.met_mk ?a39 ?i39 ?l39 ?c39 ?k39) (L2.def_mk ?a40 ?l40 ?c40 ?k40) (L2.def_mk ?a41 ?l41 ?c41 ?k41) (L2.def_mk ?a42 ?l42 ?c42 ?k42) (L2.def_mk ?a43 ?l43 ?c43 ?k43) (L2.def_mk ?a44 ?l44 ?c44 ?k44) (L2.def_mk ?a45 ?l45 ?c45 ?k45) (L2.def_mk ?a46 ?l46 ?c46 ?k46) (L2.def_mk ?a47 ?l47 ?c47 ?k47) (L2.def_mk ?a48 ?l48 ?c48 ?k48) (L2.def_mk ?a49 ?l49 ?c49 ?k49) (L2.def_mk ?a50 ?l50 ?c50 ?k50) (L2.def_mk ?a51 ?l51 ?c51 ?k51)
  case gA | lA | xgP | xgM | xgN | xgR | xgL | xgO | xaP | xnP | xcP | xbP | xxP | xaM | xnM | xcM | xbM | xxM | xyP | xsM | g_MOST_TO_LEAD | gE | lE | qE0 | qE1 | qE2 | qE3 | gD | lD | qD0 | qD1 | qD2 | qD3 | qD4 | aCC | pgC | hdC | poC | saC | mkC | kcC | nC_members | nC_places | aCD | pgD | hdD | poD | saD | mkD | kcD | nD_kept | nD_bound | nD_past | nD_copies | nD_times | a0 | l0 | c0 | k0 | a1 | l1 | c1 | k1 | a2 | l2 | c2 | k2 | a3 | l3 | c3 | k3 | a4 | l4 | c4 | k4 | a5 | l5 | c5 | k5 | a6 | l6 | c6 | k6 | a7 | l7 | c7 | k7 | a8 | l8 | c8 | k8 | a9 | l9 | c9 | k9 | a10 | l10 | c10 | k10 | a11 | l11 | c11 | k11 | a12 | l12 | c12 | k12 | a13 | l13 | c13 | k13 | a14 | l14 | c14 | k14 | a15 | l15 | c15 | k15 | a16 | l16 | c16 | k16 | a17 | l17 | c17 | k17 | a18 | l18 | c18 | k18 | a19 | l19 | c19 | k19 | a20 | l20 | c20 | k20 | a21 | i21 | l21 | c21 | k21 | a22 | i22 | l22 | c22 | k22 | a23 | l23 | c23 | k23 | a24 | l24 | c24 | k24 | a25 | l25 | c25 | k25 | a26 | l26 | c26 | k26 | a27 | l27 | c27 | k27 | a28 | l28 | c28 | k28 | a29 | l29 | c29 | k29 | a30 | l30 | c30 | k30 | a31 | l31 | c31 | k31 | a32 | i32 | l32 | c32 | k32 | a33 | i33 | l33 | c33 | k33 | a34 | i34 | l34 | c34 | k34 | a35 | i35 | l35 | c35 | k35 | a36 | i36 | l36 | c36 | k36 | a37 | i37 | l37 | c37 | k37 | a38 | i38 | l38 | c38 | k38 | a39 | i39 | l39 | c39 | k39 | a40 | l40 | c40 | k40 | a41 | l41 | c41 | k41 | a42 | l42 | c42 | k42 | a43 | l43 | c43 | k43 | a44 | l44 | c44 | k44 | a45 | l45 | c45 | k45 | a46 | l46 | c46 | k46 | a47 | l47 | c47 | k47 | a48 | l48 | c48 | k48 | a49 | l49 | c49 | k49 | a50 | l50 | c50 | k50 | a51 | l51 | c51 | k51 | z_len | z_zip | z_tuple | z_sorted | z_set | z_dict | z_min | z_max | z_range | z_list | z_int | z_all | z_enumerate | z_isinstance | z_ValueError => k_is
  case xoP | xoM | xkM | xmM => kernel_rfl
